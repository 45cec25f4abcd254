"""Points 1 and 2 over the whole program: arguments stay as they are, results are new, errors change nothing."""

import copy
import importlib
import os
import random
import unittest

from samenames import changes, check, infer, looks, meaning, more, moves, names, printer, scopes, texts
from samenames import chunks as chunking
from samenames import parser, tokens, trees
from samenames.errors import InvalidEdit, NothingToUndo, Refused, ServerError, SyntaxProblem, UnknownFile
from samenames.keeper import Keeper
from samenames.server import Server
from samenames.session import Session
from tests.programs import random_program, spoiled, wild_program

FOLDER = os.path.dirname(os.path.abspath(importlib.import_module("samenames").__file__))
SOUND = {"m": "import n: D, area\ndata P(x: Int, y: D)\ntrait T with m(self, by: Int): Int\nimpl T for P = self.x + by\n"
              "def f(a: Int, b: Int) = let x = a in P(x, D(1)).x + m(P(1, D(2)), 3)\ndef g(): Int = f(1, 2) + area(D(3))\n"
              "def k(n: Int) =\n  loop v = n times 2 do v + 1\n",
         "n": "data D(z: Int)\ndef area( d:D )=d.z * d.z\n"}
UNSOUND = {"m": "import n: D, zz\ndata P(x: Int, x: D)\ndef f(a: Int) = let x = a in P(x, D(1)).x + True + yy\n"
                "def f(a: Int) = a\ndef h(\nimpl T for P = 1\ndef g() = area(h())\n", "n": "data D(z: Int)\ndef yy() = yy()\n"}


def emptied(value):
    """Take everything out of the lists and dicts in a value."""
    if isinstance(value, dict):
        value.clear()
    elif isinstance(value, (list, tuple)):
        for part in value:
            emptied(part)
        if isinstance(value, list):
            value.clear()


def outcome(function, *arguments):
    """What a call returns, or the error that it raises with its fields."""
    try:
        return function(*arguments)
    except ServerError as error:
        return (type(error).__name__, vars(error))


class ErrorsTest(unittest.TestCase):
    def test_all_errors_derive_directly_from_the_base_class(self):
        found = set()
        for name in sorted(os.listdir(FOLDER)):
            if name.endswith(".py"):
                module = importlib.import_module("samenames." + name[:-3]) if name != "__init__.py" else None
                for value in vars(module).values() if module else ():
                    if isinstance(value, type) and issubclass(value, BaseException):
                        found.add(value)
        self.assertEqual(ServerError.__bases__, (ValueError,))
        for error in found - {ServerError}:
            self.assertEqual(error.__bases__, (ServerError,), error)
        self.assertGreater(len(found), 9)

    def test_fields(self):
        problem = SyntaxProblem(3, 5)
        self.assertEqual((problem.start, problem.end), (3, 5))
        refused = Refused("clash", "m", 7)
        self.assertEqual((refused.code, refused.file, refused.start), ("clash", "m", 7))


def calls_of_programs(chance, program):
    """Calls of functions that take a program: pairs of a function and what it takes behind the program."""
    found = [(infer.impls, ()), (infer.cyclic, ()), (check.first_problem, ())]
    for module, text in program.items():
        offset = chance.randrange(len(text) + 1)
        for function in (scopes.items, scopes.declared, scopes.scope, check.problems, check.all_occurrences, looks.colours,
                         looks.hints, looks.folds, more.fixes, more.tidy, moves.organise):
            found.append((function, (module,)))
        for function in (looks.signature_at, looks.callers, more.annotate, more.unannotate, changes.inline):
            found.append((function, (module, offset)))
        found += [(changes.rename, (module, offset, "new")), (moves.move, (module, offset, chance.choice(sorted(program)))),
                  (changes.reorder, (module, offset, [1, 0])), (changes.drop_parameter, (module, offset, 0)),
                  (scopes.sort_of, (("item", module, "f"),)), (more.with_fix, (module, (0, "f", "n")))]
        for chunk, (start, end) in enumerate(chunking.chunks(text)):
            found += [(names.occurrences, (module, chunk)), (names.name_problems, (module, chunk)),
                      (names.locals_at, (module, chunk, chance.randrange(end - start + 1))), (infer.judged, (module, chunk))]
            try:
                item = parser.read_item(text[start:end])
            except SyntaxProblem:
                continue
            if item[0] in ("def", "impl"):
                tree = chance.choice(trees.nodes(item[-1]))
                found += [(changes.extract, (module, start + tree[1], start + tree[2], "new")),
                          (changes.is_safe, (module, chunk, tree))]
    return found


class FunctionsTest(unittest.TestCase):
    def check(self, function, *arguments):
        """The call leaves its arguments as they were, and what it returns is new."""
        before = copy.deepcopy(arguments)
        first = outcome(function, *arguments)
        self.assertEqual(arguments, before, function)
        kept = copy.deepcopy(first)
        emptied(first)
        self.assertEqual(arguments, before, function)
        self.assertEqual(outcome(function, *arguments), kept, (function, arguments))

    def test_texts_and_trees(self):
        text = "def f(a: Int) =\n  let x = -(a) in P(x, 1).y\n"
        tree = parser.read_item(text)[-1]
        for function, arguments in (
                (texts.is_text, (text,)), (texts.apply_edit, (text, (1, 2, "x"))), (texts.inverse, (text, (1, 2, "x"))),
                (texts.apply_joint, (text, [(1, 2, "x"), (4, 4, "y")])), (texts.apply_joint, (text, [(1, 2, "x"), (0, 4, "y")])),
                (texts.difference, (text, "x" + text)), (texts.line_column, (text, 20)), (texts.offset_at, (text, 1, 3)),
                (tokens.tokens, (text,)), (tokens.relexed, (text, tokens.tokens(text), (1, 20, "x"))), (tokens.is_name, ("x",)),
                (chunking.chunks, (text,)), (parser.read_item, (text,)), (parser.read_value, (text,)), (trees.children, (tree,)),
                (trees.nodes, (tree,)), (trees.tree_at, (tree, tree[1], tree[2])), (trees.same_shape, (tree, tree)),
                (printer.print_value, (tree,)), (printer.print_item, (parser.read_item(text),)), (printer.tidied, (text,))):
            self.check(function, *arguments)

    def test_programs(self):
        chance = random.Random(91)
        for program in (SOUND, UNSOUND):
            for _ in range(4):
                for function, rest in calls_of_programs(chance, program):
                    self.check(function, program, *rest)
        self.check(meaning.evaluate, SOUND, "m", "f", [1, 2], 100)
        self.check(meaning.evaluate, SOUND, "n", "area", [("data", "n", "D", (5,))], 100)

    def test_drawn_programs(self):
        chance = random.Random(92)
        for number in range(12):
            program = spoiled(chance, random_program(chance, 300), number % 3) if number % 2 else wild_program(chance)
            for function, rest in calls_of_programs(chance, program):
                if chance.random() < 0.4:
                    self.check(function, program, *rest)

    def test_changes_return_new_programs(self):
        for function, rest in ((moves.organise, ("n",)), (more.tidy, ("m",)), (changes.rename, ("m", 23, "Q")),
                               (more.with_fix, ("n", (0, "f", "m")))):
            found = outcome(function, SOUND, *rest)
            self.assertIsInstance(found, dict)
            self.assertIsNot(found, SOUND)


class ObjectsTest(unittest.TestCase):
    def test_nothing_that_was_passed_is_kept(self):
        for make in (Server, Session):
            program = dict(SOUND)
            made = make(program)
            program["m"] = "x"
            program["zz"] = "y"
            self.assertEqual(made.program(), SOUND)
            made.program().clear()
            self.assertEqual(made.program(), SOUND)
        order = [1, 0]
        server = Server(SOUND)
        server.reorder("m", SOUND["m"].index("f(a"), order)
        order.clear()
        server.undo()
        server.redo()
        self.assertIn("def f(b: Int, a: Int)", server.text("m"))

    def test_keepers(self):
        keeper = Keeper(lambda keeper, key: keeper.ask(("a",)))
        keeper.put(("a",), 1)
        keeper.ask(("b",))
        for method in (keeper.kept, keeper.computed):
            first = method()
            self.assertEqual(first, [("b",)])
            first.clear()
        self.assertEqual((keeper.kept(), keeper.computed()), ([("b",)], []))

    def answers(self, server):
        found = [server.modules(), server.program()]
        for module in server.modules():
            found += [server.problems(module), server.outline(module)]
            for offset in range(0, len(server.text(module)) + 1, 7):
                found += [server.symbol_at(module, offset), server.definition(module, offset), server.uses(module, offset),
                          server.kind_at(module, offset), server.completions(module, offset)]
        return found

    def test_answers_are_new(self):
        for program in (SOUND, UNSOUND):
            server = Server(program)
            first = self.answers(server)
            kept = copy.deepcopy(first)
            emptied(first)
            self.assertEqual(self.answers(server), kept)
            self.assertEqual(self.answers(Server(program)), kept)

    def test_calls_that_raise_an_error_change_nothing(self):
        chance = random.Random(93)
        raised = {}
        for _ in range(25):
            program = random_program(chance, 300)
            one, other = Server(program), Server(program)
            for _ in range(25):
                module = chance.choice(sorted(program) + ["zz"])
                offset = chance.randrange(len(program.get(module, "")) + 1)
                method, arguments = chance.choice([
                    ("edit", (module, (offset, chance.choice([offset, offset + 9]), chance.choice(["", " ", "\t"])))),
                    ("undo", ()), ("redo", ()), ("rename", (module, offset, chance.choice(["x", "q9", "1"]))),
                    ("move", (module, offset, chance.choice(["a", "b", "zz"]))), ("extract", (module, offset, offset + 1, "q8")),
                    ("inline", (module, offset)), ("reorder", (module, offset, [1, 0])), ("drop_parameter", (module, offset, 0)),
                    ("organise", (module,)), ("open_file", (module, "\t")), ("close_file", ("yy",))])
                found = outcome(getattr(one, method), *arguments)
                if found is None:
                    # Only calls without an error are made to the other server.
                    getattr(other, method)(*arguments)
                else:
                    raised[found[0]] = raised.get(found[0], 0) + 1
                self.assertEqual(one.program(), other.program())
            self.same_steps(one, other)
        for name in ("InvalidEdit", "UnknownFile", "NothingToUndo", "Refused", "FileExists"):
            self.assertGreater(raised[name], 5, name)

    def same_steps(self, one, other):
        """Both servers can take back the same steps, and do them again."""
        for method in ("undo", "redo"):
            while True:
                first, second = outcome(getattr(one, method)), outcome(getattr(other, method))
                self.assertEqual((first, one.program()), (second, other.program()))
                if first is not None:
                    self.assertEqual(first[0], "NothingToUndo")
                    break

    def test_errors_of_sessions_change_nothing(self):
        session = Session({"m": "x"})
        session.receive(("edit", "m", (0, 0, ""), 1))
        with self.assertRaises(UnknownFile):
            session.version("n")
        self.assertEqual((session.waiting(), session.program()), (1, {"m": "x"}))
        with self.assertRaises(InvalidEdit):
            Session({"m": "\t"})
        with self.assertRaises(NothingToUndo):
            Server({}).undo()


if __name__ == "__main__":
    unittest.main()
