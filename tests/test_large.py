"""Texts of 4000 characters, six modules and the deepest values that point 11 lets through, for all functions."""

import unittest

from samenames.changes import drop_parameter, extract, inline, is_safe, rename, reorder
from samenames.check import all_occurrences, first_problem, problems
from samenames.chunks import chunks
from samenames.errors import Refused, ServerError, SyntaxProblem
from samenames.infer import cyclic, impls, judged, result_kind
from samenames.looks import callers, colours, folds, hints, signature_at
from samenames.meaning import evaluate
from samenames.more import annotate, fixes, tidy, unannotate, with_fix
from samenames.moves import move, organise
from samenames.names import locals_at, name_problems, occurrences
from samenames.parser import read_item, read_value
from samenames.printer import print_value, tidied
from samenames.scopes import declared, items, scope
from samenames.server import Server
from samenames.session import Session
from samenames.tokens import tokens
from samenames.trees import nodes

MODULES = "abcdef"


def filled(head, row):
    """A text with as many rows as it can have."""
    text, number = head, 0
    while len(text) + len(row(number)) <= 4000:
        text += row(number)
        number += 1
    return text


def chain():
    """Def items of which each one calls the next one, through six modules."""
    program, last = {}, ""
    for module in reversed(MODULES):
        after = {"f": "1"}.get(module) or "%s0()" % last
        many = 250
        rows = ["def %s%d()=%s%d()\n" % (module, number, module, number + 1) for number in range(many)]
        head = "" if module == "f" else "import %s: %s0\n" % (last, last)
        text = head + "".join(rows)
        while len(text) > 3950:
            rows.pop()
            text = head + "".join(rows)
        program[module] = text + "def %s%d()=%s\n" % (module, len(rows), after)
        last = module
    return program


def many_impls():
    """As many impls of one trait as there is room for, and calls of its method."""
    program = {"a": filled("trait T with m(s): Int\nimpl T for Int = s\n", lambda at: "data A%d()\nimpl T for A%d=1\n" % (at, at))}
    for module in "bcd":
        name = module.upper()
        program[module] = filled("import a: T\n", lambda at: "data %s%d()\nimpl T for %s%d=2\n" % (name, at, name, at))
    for module in "ef":
        program[module] = filled("import a: m\n", lambda at: "def %s%d()=m(1)+m(2)\n" % (module, at))
    return program


MANY = 29
# The first value is around all others, so that 29 stand in it.
DEEP = ["(" * MANY + "n" + ")" * MANY, "-" * MANY + "n",
        "".join("let x%d=" % at for at in range(MANY)) + "n" + " in n" * MANY, "let x=n in " * MANY + "x",
        "if True then n else " * MANY + "n", "if True then " * MANY + "n" + " else n" * MANY,
        "loop x=n times 2 do " * MANY + "x", "g(" * MANY + "n" + ")" * MANY, "D(" * MANY + "n" + ").x" * MANY,
        "n+(" * MANY + "n" + ")" * MANY, "n/(" * MANY + "n" + ")" * MANY]
DEEP_TRUTHS = ["not " * MANY + "True", "not (" * 14 + "not True" + ")" * 14]
LONG = ["+".join(["n"] * 140), "*".join(["n"] * 140), "-".join(["-n"] * 90)]
LONG_TRUTHS = ["n==n and " * 50 + "True", " or ".join(["False"] * 140)]


def deepest():
    """A program with all of these values."""
    rows = ["def v%d(n: Int): Int = %s\n" % (at, value) for at, value in enumerate(DEEP + LONG)]
    rows += ["def t%d(n: Int): Bool = %s\n" % (at, value) for at, value in enumerate(DEEP_TRUTHS + LONG_TRUTHS)]
    return {"a": "data D(x: Int)\ndef g(a: Int) = a\n" + "".join(rows[:8]), "b": "import a: g, D\n" + "".join(rows[8:])}


SOUND = {"chain": chain(), "impls": many_impls(), "deepest": deepest(),
         "small": {module: filled("", lambda at: "def %s%d()=1\n" % (module, at)) for module in MODULES},
         "sums": {module: filled("", lambda at: "def %s%d(n:Int)=%s\n" % (module, at, "+".join(["n"] * 140))) for module in MODULES},
         "spaces": {module: " " * 4000 for module in MODULES}, "lines": {module: "\n" * 4000 for module in MODULES},
         "comments": {module: "#" * 4000 for module in MODULES}, "digits": {"a": "def f()=" + "7" * 3992}}
UNSOUND = {"names": {module: "x" * 4000 for module in MODULES}, "rows": {module: "a\n" * 2000 for module in MODULES},
           "imports": {module: filled("", lambda at: "import b: %s\n" % ",".join(["a"] * 140)) for module in MODULES},
           "doubled": {module: filled("", lambda at: "def a()=a()\n") for module in MODULES},
           "signs": {module: "(" * 4000 for module in MODULES},
           "circles": {module: filled("trait T with m(s): Int\n", lambda at: "data D%d()\nimpl T for D%d=m(1)+m(s)\n" % (at, at))
                       for module in MODULES},
           "unknown": {module: filled("", lambda at: "def %s%d(a:X)=zz(a)+y\n" % (module, at)) for module in MODULES}}


class LargeTest(unittest.TestCase):
    def test_the_programs_are_large(self):
        for program in list(SOUND.values()) + list(UNSOUND.values()):
            self.assertTrue(all(len(text) <= 4000 for text in program.values()), {len(text) for text in program.values()})
        self.assertTrue(all(len(text) > 3900 for text in SOUND["small"].values()))

    def test_which_are_sound(self):
        for name, program in SOUND.items():
            self.assertIsNone(first_problem(program), name)
        for name, program in UNSOUND.items():
            self.assertEqual(first_problem(program)[0], "a", name)

    def test_questions(self):
        for program in list(SOUND.values()) + list(UNSOUND.values()):
            server = Server(program)
            for module in (max(program),):
                text = program[module]
                self.assertEqual(server.problems(module), problems(program, module))
                row = all_occurrences(program, module)
                self.assertEqual(len(colours(program, module)), len(tokens(text)))
                for found in (items(program, module), declared(program, module), hints(program, module), fixes(program, module)):
                    self.assertIsInstance(found, list)
                self.assertIsInstance(scope(program, module), dict)
                self.assertEqual(folds(program, module), [])
                self.assertEqual(tidied(tidied(text)), tidied(text))
                for offset in (0, row[-1][0] if row else 5, len(text)):
                    server.symbol_at(module, offset)
                    server.definition(module, offset)
                    self.assertEqual((module, offset) in [found[:2] for found in server.uses(module, offset)],
                                     offset in [each[0] for each in row])
                    server.kind_at(module, offset)
                    self.assertEqual(server.completions(module, offset), sorted(server.completions(module, offset)))
                    signature_at(program, module, offset)
                    callers(program, module, offset)

    def test_chunks(self):
        for program in list(SOUND.values()) + list(UNSOUND.values()):
            module = min(program)
            places = chunks(program[module])
            for chunk in (0, len(places) - 1) if places else ():
                start, end = places[chunk]
                kinds, fields, wrong = judged(program, module, chunk)
                self.assertLessEqual(len(occurrences(program, module, chunk)), 300)
                self.assertEqual(wrong + name_problems(program, module, chunk) == [],
                                 not [row for row in problems(program, module) if start <= row[0] < end])
                locals_at(program, module, chunk, (end - start) // 2)

    def test_circles(self):
        self.assertEqual((cyclic(SOUND["chain"]), cyclic(SOUND["impls"])), ([], []))
        self.assertEqual(len(cyclic(UNSOUND["circles"])), len(impls(UNSOUND["circles"])))
        self.assertEqual(result_kind(SOUND["chain"], "a", 1), ("Int",))
        # Each result rests on all that come behind it in the chain.
        self.assertEqual({text for _, text in hints(SOUND["chain"], "a")}, {": Int"})
        self.assertIn("def a0(): Int=", annotate(SOUND["chain"], "a", SOUND["chain"]["a"].index("a0"))["a"])
        program = dict(SOUND["chain"])
        program["f"] = "import a: a0\n" + program["f"].replace("=1\n", "=a0()\n")
        self.assertEqual(problems(program, "a")[0][2], "cycle")

    def done(self, function, *arguments):
        """The sound program that a change gives, or the code of the refusal."""
        try:
            found = function(*arguments)
        except Refused as error:
            return error.code
        self.assertIsNone(first_problem(found))
        return found

    def test_changes(self):
        for name in ("chain", "impls", "small"):
            program = SOUND[name]
            module = max(program)
            rows = declared(program, module)
            for number, (function, rest) in enumerate((
                    (rename, ("zz9",)), (rename, (rows[-1][0],)), (annotate, ()), (unannotate, ()), (move, ("a",)),
                    (reorder, ([],)), (drop_parameter, (0,)), (inline, ()))):
                _, _, chunk, start = rows[(0, len(rows) // 2)[number % 2]]
                found = self.done(function, program, module, chunks(program[module])[chunk][0] + start, *rest)
                self.assertTrue(isinstance(found, dict) or found in ("symbol", "long", "clash", "untold", "order"), found)

    def test_changes_of_modules(self):
        for name, program in SOUND.items():
            module = max(program)
            self.assertIsInstance(self.done(organise, program, module), dict, name)
            found = self.done(tidy, program, module)
            self.assertEqual(found == "long", len(tidied(program[module])) > 4000)

    def test_changes_of_unsound_programs(self):
        for program in UNSOUND.values():
            module, start = first_problem(program)
            for function, rest in ((rename, (4, "q")), (tidy, ()), (annotate, (4,)), (extract, (4, 5, "q"))):
                with self.assertRaises(Refused) as caught:
                    function(program, "f", *rest)
                error = caught.exception
                self.assertEqual((error.code, error.file, error.start), ("unsound", module, start))
            with self.assertRaises(ServerError):
                with_fix({"f": "x" * 3999}, "f", (0, "f", "a"))

    def test_sessions(self):
        for program in (SOUND["chain"], UNSOUND["circles"]):
            session = Session(program)
            session.receive(("ask", 1, "problems", "a", 0))
            session.receive(("edit", "f", (0, 1, "D"), 1))
            session.receive(("ask", 2, "kind", "a", 40))
            pieces = 0
            while not session.work(40):
                pieces += 1
            self.assertGreater(pieces, 10)
            self.assertEqual([row[:2] for row in session.told()], [("answer", 1), ("accepted", "f"), ("answer", 2)])


class DeepestTest(unittest.TestCase):
    def bodies(self):
        for module, text in SOUND["deepest"].items():
            for chunk, (start, end) in enumerate(chunks(text)):
                item = read_item(text[start:end])
                if item[0] == "def" and item[1][0] != "g":
                    yield module, chunk, start, item

    def test_values_are_as_deep_as_they_can_be(self):
        for value in DEEP + DEEP_TRUTHS:
            read_value(value)
            for more in ("(%s)", "f(%s)", "-(%s)", "not (%s)"):
                with self.assertRaises(SyntaxProblem):
                    read_value(more % value)
        for value in DEEP + DEEP_TRUTHS + LONG + LONG_TRUTHS:
            found = print_value(read_value(value))
            self.assertEqual(print_value(read_value(found)), found)

    def test_evaluation(self):
        program = SOUND["deepest"]
        for module, chunk, _, item in self.bodies():
            for fuel in (0, 1, 10, 100, 100000):
                found = evaluate(program, module, item[1][0], [1], fuel)
                self.assertIn(found[0], ("value", "tired"))
            if len(nodes(item[-1])) < 120 and "loop" not in [tree[0] for tree in nodes(item[-1])]:
                self.assertEqual(found[0], "value", item)

    def test_changes(self):
        program = SOUND["deepest"]
        done = 0
        for module, chunk, start, item in self.bodies():
            trees = nodes(item[-1])
            for tree in (trees[0], trees[-1]):
                self.assertIn(is_safe(program, module, chunk, tree), (True, False))
                try:
                    found = extract(program, module, start + tree[1], start + tree[2], "new")
                    self.assertIsNone(first_problem(found))
                    self.assertEqual(evaluate(found, module, item[1][0], [1], 5000)[0] != "failed", True)
                    done += 1
                except Refused as error:
                    # Brackets around what is copied would be too deep, or there is no room.
                    self.assertIn(error.code, ("clash", "long"))
                for offset in (start + tree[1] + 4,):
                    try:
                        self.assertIsNone(first_problem(inline(program, module, offset)))
                    except Refused as error:
                        self.assertIn(error.code, ("symbol", "clash", "long", "unsafe"))
        self.assertGreater(done, 20)

    def test_one_level_too_deep(self):
        for value in ("(" * 30 + "n" + ")" * 30, "-" * 30 + "n", "not " * 30 + "n", "let x=n in " * 30 + "x"):
            text = "def f(n: Int) = %s\n" % value
            found = problems({"m": text}, "m")
            self.assertEqual([row[2] for row in found], ["syntax"])
            server = Server({"m": text})
            self.assertEqual((server.kind_at("m", 40), server.completions("m", 40), hints({"m": text}, "m")), ("", [], []))
            self.assertEqual(tidied(text), text)


if __name__ == "__main__":
    unittest.main()
