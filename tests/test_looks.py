"""Points 67 to 71: colours, hints, signatures, callers and folds."""

import random
import unittest

from samenames.chunks import chunks
from samenames.looks import callers, colours, folds, hints, signature_at
from samenames.tokens import tokens
from tests.helpers import at
from tests.programs import random_program, spoiled, wild_program
from tests.reference import Reference

HEAD = """import n: D, area, q
data P(x: Int, y: D)
trait T with m(self, by: Int): Int
impl T for P = self.x + by
"""
OTHER = "data D(z: Int)\ndef area(d: D) = d.z * d.z\ntrait R with q(s, d: D): Bool\n"


def one(text):
    return {"m": text}


class ColoursTest(unittest.TestCase):
    def check(self, text, *expected, **others):
        """What the tokens are, without the signs."""
        found = colours({"m": text, **others}, "m")
        self.assertEqual([row[:2] for row in found], [row[1:] for row in tokens(text)])
        rows = [text[start:end] + " " + sort for start, end, sort in found if sort != "sign"]
        self.assertEqual(rows, [row.strip() for row in " ".join(expected).split(",")], text)

    def test_items(self):
        self.check("import n: D, area, q\n", "import word, n module, D kind, area function, q function", n=OTHER)
        self.check("data P(x: Int, y: P)", "data word, P kind, x field, Int kind, y field, P kind")
        self.check("trait T with m(self, by: Int): Bool",
                   "trait word, T trait, with word, m function, self local, by local, Int kind, Bool kind")
        self.check("trait T with m(s): Int\nimpl T for Int = s + 1",
                   "trait word, T trait, with word, m function, s local, Int kind,"
                   "impl word, T trait, for word, Int kind, s local, 1 number")
        self.check("import n: R\ndef f[U, V: R](u: U, v: V): U = u",
                   "import word, n module, R trait, def word, f function, U kind, V kind, R trait, u local, U kind,"
                   "v local, V kind, U kind, u local", n=OTHER)

    def test_values(self):
        self.check("data P(x: Int)\ndef f() = let p = P(1) in p.x + f().x", "data word, P kind, x field, Int kind,"
                   "def word, f function, let word, p local, P kind, 1 number, in word, p local, x field,"
                   "f function, x unknown")
        self.check("def f() = loop x = True times 3 do not x", "def word, f function, loop word, x local, True word,"
                   "times word, 3 number, do word, not word, x local")

    def test_names_that_mean_nothing(self):
        self.check("def f(a: X) = zz(a.b, yy)", "def word, f function, a local, X unknown, zz unknown, a local,"
                   "b unknown, yy unknown")
        self.check("import o: f\nimport m: g\nimport n: zz", "import word, o unknown, f unknown, import word, m module,"
                   "g unknown, import word, n module, zz unknown", n=OTHER)
        # Doubled marks, and all names of a void item.
        self.check("def f(a: Int, a: Int) = a\ndata f(x: Int)", "def word, f function, a local, Int kind, a unknown,"
                   "Int kind, a local, data word, f unknown, x unknown, Int unknown")
        self.check("def f[U, U](u: U) = u", "def word, f function, U kind, U unknown, u local, U kind, u local")

    def test_names_of_another_sort(self):
        # What they mean counts, not whether it fits.
        self.check("data P()\ndef f[U: P](a: f) = P + m(f)\ntrait T with m(s): T",
                   "data word, P kind, def word, f function, U kind, P kind, a local, f function, P kind,"
                   "m function, f function, trait word, T trait, with word, m function, s local, T trait")

    def test_what_is_in_no_item(self):
        self.check("  x 1 def\n$ f 1 # g\n def (", "x unknown, 1 number, def word, $ wrong, f unknown, 1 number, def word")
        self.assertEqual(colours(one(""), "m"), [])
        self.assertEqual(colours(one("# a\n\n"), "m"), [])
        self.assertEqual(colours(one(" == ["), "m"), [(1, 3, "sign"), (4, 5, "sign")])

    def test_an_impl_without_a_body(self):
        self.check("data P(x: Int)\ntrait T with m(s): Int\nimpl T for P = s.x\nimpl T for P = s.x", "data word, P kind,"
                   "x field, Int kind, trait word, T trait, with word, m function, s local, Int kind, impl word, T trait,"
                   "for word, P kind, s local, x field, impl word, T trait, for word, P kind, s local, x unknown")


class HintsTest(unittest.TestCase):
    def check(self, text, *expected, **others):
        """The hints put into the text, each in angle brackets."""
        found = hints({"m": text, **others}, "m")
        self.assertEqual(found, sorted(found))
        for offset, told in reversed(found):
            text = text[:offset] + "{" + told + "}" + text[offset:]
        self.assertEqual(text, "".join(expected))

    def test_results(self):
        self.check("def f() = 1", "def f(){: Int} = 1")
        self.check("def f(a: Int)=a<1", "def f(a: Int){: Bool}=a<1")
        self.check("def f(): Int = 1", "def f(): Int = 1")
        self.check("def f[U](u: U) = u", "def f[U](u: U){: U} = u")
        self.check("def f( # )\n ) # )\n = 1", "def f( # )\n ){: Int} # )\n = 1")
        self.check("data D()\ndef f() = D()\ndef g() = f()", "data D()\ndef f(){: D} = D()\ndef g(){: D} = f()")
        self.check("def f() = zz", "def f(){: ?} = zz")
        self.check("def f() = f()", "def f(){: ?} = f()")
        self.check("import n: area\ndef f() = area(1)", "import n: area\ndef f(){: Int} = area(1)", n=OTHER)
        self.check("import n: make\ndef f() = make()", "import n: make\ndef f(){: D} = make()",
                   n="data D()\ndef make() = D()\n")

    def test_variables(self):
        self.check("def f(): Int = let x = True in let yy =1 in yy", "def f(): Int = let x{: Bool} = True in let yy{: Int} =1 in yy")
        self.check("def f(): Int = loop  x  = 1 times 2 do let y = x in y", "def f(): Int = loop  x{: Int}  = 1 times 2 do let y{: Int} = x in y")
        self.check("def f[U](u: U): Int = let x = u in 1", "def f[U](u: U): Int = let x{: U} = u in 1")
        self.check("def f(): Int = let x = zz in 1", "def f(): Int = let x{: ?} = zz in 1")
        self.check("trait T with m(s): Int\nimpl T for Bool = let x = s in 1", "trait T with m(s): Int\nimpl T for Bool = let x{: Bool} = s in 1")
        self.check("def f() = let x = 1 in x", "def f(){: Int} = let x{: Int} = 1 in x")
        # The kind that is known at the end, not the one when the variable was looked at.
        self.check("def no[U](): U = no()\ndef f(): Int = let x = no() in x + 1",
                   "def no[U](): U = no()\ndef f(): Int = let x{: Int} = no() in x + 1")

    def test_what_has_none(self):
        # Void items, impls that have no body, broken items, and what stands before the first chunk.
        for text in ("data f()\ndef f() = let x = 1 in x\n", "impl T for Int = let x = 1 in x\n", "def f() = let x = 1 in\n",
                     "  def f() = 1\n", "# def f() = 1\n", "",
                     "data P(x: Int)\ntrait T with m(s): Int\nimport n: D\n"):
            self.assertEqual(hints({"m": text, "n": OTHER}, "m"), [], text)
        text = "trait T with m(s): Int\nimpl T for Int = let x = 1 in x\nimpl T for Int = let x = 1 in x\n"
        self.assertEqual(hints(one(text), "m"), [(at(text, "x =") + 1, ": Int")])

    def test_places_count_in_the_text(self):
        self.assertEqual(hints(one("\n  x\ndef f(): Int = 1\n\ndef g() = let x = 1 in x\n"), "m"), [(30, ": Int"), (38, ": Int")])


class SignatureTest(unittest.TestCase):
    def check(self, text, expected, offset, **others):
        self.assertEqual(signature_at({"m": text, **others}, "m", offset), expected, (text, offset))

    def test_offsets(self):
        text = "def g(a: Int, b: Bool) = a\ndef f() = g(1, True) + 2\n"
        shift = at(text, "g(1")
        found = ("a: Int", "b: Bool")
        for offset, index in ((1, 0), (2, 0), (3, 0), (4, 1), (5, 1), (6, 1), (9, 1), (10, 2)):
            # The second argument ends at 9, and the offset 9 is not behind that.
            self.check(text, ("g", found, index), shift + offset)
        for offset in (-1, 0, 11, 12, 13):
            self.check(text, None, shift + offset)
        self.check(text, None, 5)
        self.check(text, None, len(text))

    def test_the_innermost_call(self):
        text = "def g(a: Int, b: Int) = a\ndef h(c: Bool) = 1\ndef f() = g(h(True), g(1, h(False)))\n"
        shift = at(text, "g(h")
        two, single = ("a: Int", "b: Int"), ("c: Bool",)
        expected = {1: ("g", two, 0), 2: ("g", two, 0), 3: ("h", single, 0), 8: ("h", single, 0), 9: ("h", single, 1),
                    10: ("g", two, 1), 11: ("g", two, 1), 12: ("g", two, 0), 13: ("g", two, 0), 14: ("g", two, 0),
                    15: ("g", two, 1), 16: ("g", two, 1), 17: ("h", single, 0), 24: ("h", single, 1), 25: ("g", two, 2),
                    26: ("g", two, 2)}
        for offset in range(28):
            if offset in expected:
                self.check(text, expected[offset], shift + offset)
        self.check(text, None, shift)
        self.check(text, None, shift + 27)

    def test_sorts(self):
        head = HEAD + "def f[U: T, V](u: U, v: V, d: D) = "
        others = {"n": OTHER}
        for value, expected in (("P(1, d).x", ("P", ("x: Int", "y: D"), 0)), ("m(u, 1)", ("m", ("self", "by: Int"), 0)),
                                ("f(u, v, d)", ("f", ("u: U", "v: V", "d: D"), 0)), ("area(d)", ("area", ("d: D",), 0)),
                                ("q(u, d)", ("q", ("s", "d: D"), 0)), ("D(1).z", ("D", ("z: Int",), 0))):
            self.check(head + value + "\n", expected, len(head) + 1, **others)
        self.check("def g() = 1\ndef f() = g()", ("g", (), 0), 23)
        self.check("trait T with m(s): Int\ndef f() = m(1)", ("m", ("s",), 1), 37)

    def test_kinds_that_are_unknown(self):
        self.check("def g(a: X, b: Int, a: g) = 1\ndef f() = g()", ("g", ("a: ?", "b: Int", "a: ?"), 0), 42)
        # More arguments than there are parameters.
        self.check("def g(a: Int) = 1\ndef f() = g(1, 2, 3)", ("g", ("a: Int",), 3), 38)

    def test_calls_of_something_else(self):
        text = "trait T with m(s): Int\ndef g(a: Int) = 1\ndef f(b: Int) = g(T(1) + b(1) + zz(1))\n"
        for part in ("T(1", "b(1", "zz(1"):
            # The innermost call has no signature, though the one around it has.
            self.check(text, None, at(text, part) + 1)
            self.check(text, None, at(text, part) + len(part) + 1)
        self.check(text, ("g", ("a: Int",), 0), at(text, " + b") + 1)

    def test_only_bodies(self):
        for text in ("data g()\ndef g(a: Int) = g(1)\n", "def g(a: Int) = 1\nimpl T for Int = g(1)\n", "def g(a: Int) = g(1\n",
                     "# g(1)\n", "  g(1)\n"):
            for offset in range(len(text) + 1):
                self.check(text, None, offset)
        text = "trait T with m(s): Int\nimpl T for Int = 1\nimpl T for Int = m(1)\n"
        self.check(text, None, len(text) - 2)


class CallersTest(unittest.TestCase):
    program = {"m": HEAD + "def f(p: P) = area(p.y) + m(p, area(p.y))\ndef g() = f + f(1)\n# f(1)\ndef f() = f()\n",
               "n": OTHER, "o": "import m: T, m, P, f\nimport n: area\n\nimpl T for Int = area(1)\nimpl T for Int = area(1)\n"
                                "def r(f: Int) = f\ndef s(f: Int) = f(f)\n"}

    def check(self, module, part, *expected, number=0):
        text = self.program[module]
        found = callers(self.program, module, at(text, part, number))
        self.assertEqual(found, [(other, at(self.program[other], row)) for other, row in expected])

    def test_callers(self):
        self.check("m", "area", ("m", "f(p: P)"), ("o", "T for Int"))
        self.check("n", "area", ("m", "f(p: P)"), ("o", "T for Int"))
        self.check("m", "area(p.y)", ("m", "f(p: P)"), ("o", "T for Int"), number=1)
        self.check("o", "area(1)", ("m", "f(p: P)"), ("o", "T for Int"))
        self.check("m", "m(self", ("m", "f(p: P)"))
        self.check("m", "m(p", ("m", "f(p: P)"))
        # Wrong calls are calls; a local of the same name, a comment and a void item are not.
        self.check("m", "f(p: P)", ("m", "g() ="))
        self.check("m", "f + f", ("m", "g() ="))
        self.check("o", "f\n", ("m", "g() ="))
        self.check("m", "q\n")
        self.check("m", "g()")

    def test_other_symbols(self):
        for module, part in (("m", "n: D"), ("m", "D,"), ("m", "P(x"), ("m", "x: Int"), ("m", "Int"), ("m", "T with"), ("m", "self"),
                             ("m", "T for"), ("m", "p: P"), ("m", "y) +"), ("m", "import"), ("m", "f() = f()"), ("o", "r(f"),
                             ("o", "f: Int"), ("o", "f(f)")):
            self.check(module, part)
        self.assertEqual(callers(self.program, "m", len(self.program["m"])), [])

    def test_each_once_and_in_order(self):
        program = {"b": "import a: f\ndef g() = f() + f()\ndef h() = f()\n", "a": "\ndef f() = 1\ndef g() = f() * f()\n"}
        expected = [("a", 17), ("b", 16), ("b", 36)]
        self.assertEqual(callers(program, "a", 5), expected)
        self.assertEqual(callers(program, "b", at(program["b"], "f")), expected)
        # The name of the module, and what is called g in it.
        self.assertEqual(callers(program, "b", at(program["b"], "a:")), [])
        self.assertEqual(callers(program, "b", 16), [])

    def test_offsets(self):
        program = one("def twice(a: Int) = a\ndef g() = twice(1)\n")
        for offset in range(45):
            found = [("m", 26)] if 4 <= offset < 9 or 32 <= offset < 37 else []
            self.assertEqual(callers(program, "m", offset), found, offset)

    def test_calls_in_circles(self):
        self.assertEqual(callers(one("def f() = f()\n"), "m", 4), [("m", 4)])


class FoldsTest(unittest.TestCase):
    def check(self, text, *expected):
        self.assertEqual(folds(one(text), "m"), list(expected), text)

    def test_chunks_over_several_lines(self):
        self.check("def f() =\n  1\n", (0, 1))
        self.check("def f() =\n\n  1\n  +2\n\n\ndef g() = 1\ndata D(\n )", (0, 3), (7, 8))
        self.check("\n\n  x\ndef f() =\n 1", (3, 4))

    def test_chunks_of_one_line(self):
        self.check("")
        self.check("def f() = 1")
        self.check("def f() = 1\n\n  # note\n\ndef g() = 1\n")
        self.check("  x\n  y\n")

    def test_comments(self):
        # A line that has only a comment has no token, but a chunk may begin with one.
        self.check("# a\n  # b\n")
        self.check("# a\n  def f() = 1\n  # b\n", (0, 1))
        self.check("def f() = # a\n  # b\n  1 # c\n  # d\n", (0, 2))

    def test_broken_and_void_items(self):
        self.check("def f(\n $\n )\ndata D()\ndata D(\n )\n", (0, 2), (4, 5))
        self.check("x\n y\n", (0, 1))


class RandomTest(unittest.TestCase):
    """Against what the reference tells, on sound and unsound programs."""

    def programs(self, chance, many):
        for number in range(many):
            program = random_program(chance, 700) if number % 3 == 0 else wild_program(chance)
            if number % 3 == 1:
                program = spoiled(chance, random_program(chance, 700), 3)
            yield {module: chance.choice(["", "\n x (\n", "  # y\n"]) + text.replace(" = ", chance.choice([" = ", " =\n  ", "="]))
                   for module, text in program.items()}

    def test_colours(self):
        chance = random.Random(71)
        seen = {}
        for program in self.programs(chance, 90):
            reference = Reference(program)
            for module in program:
                means = {row[:2]: row[2] for row in reference.occurrences(module)}
                found = colours(program, module)
                self.assertEqual([row[:2] for row in found], [row[1:] for row in tokens(program[module])])
                for (start, end, sort), token in zip(found, tokens(program[module])):
                    self.assertEqual(sort, self.colour(reference, token, means.get((start, end))), (program, module, start))
                    seen[sort] = seen.get(sort, 0) + 1
        for sort in ("module", "kind", "trait", "function", "field", "local", "unknown", "word", "number", "sign"):
            self.assertGreater(seen[sort], 20, sort)

    def colour(self, reference, token, symbol):
        if token[0] != "name":
            return token[0]
        if symbol is None:
            return "unknown"
        sort = reference.sort(symbol)
        if sort == "local":
            item = reference.items[symbol[1], symbol[2]]
            bounds = [mark[1] for mark, _ in item[2]] if item[0] == "def" else []
            return "kind" if symbol[3] in bounds else "local"
        return {"data": "kind", "builtin": "kind", "def": "function", "method": "function"}.get(sort, sort)

    def written(self, reference, kind):
        if kind[0] == "bound":
            item = reference.items[kind[1], kind[2]]
            return [mark[0] for mark, _ in item[2] if mark[1] == kind[3]][0]
        return "?" if kind[0] == "unknown" else kind[-1]

    def test_hints(self):
        chance = random.Random(72)
        many = 0
        for program in self.programs(chance, 90):
            reference = Reference(program)
            for module, text in program.items():
                expected = []
                for chunk in reference.chunks_of(module):
                    item, shift = reference.items[module, chunk], reference.shift[module, chunk]
                    if item[0] == "def" and item[4] is None and not reference.void(module, chunk):
                        end = [token for token in tokens(text) if token[1] >= shift and text[token[1]] == ")"][0][2]
                        expected.append((end, reference.result(module, chunk)))
                    if reference.has_body(module, chunk):
                        kinds = {row[:2]: row[2] for row in reference.judged(module, chunk)[0]}
                        for tree in self.trees(item[-1]):
                            if tree[0] in ("let", "loop"):
                                expected.append((shift + tree[4] + len(tree[3]), kinds[tree[5][1:3]]))
                expected = [(offset, ": " + self.written(reference, kind)) for offset, kind in expected]
                self.assertEqual(hints(program, module), sorted(expected), (program, module))
                many += len(expected)
        self.assertGreater(many, 200)

    def trees(self, tree):
        yield tree
        for part in tree[4] if tree[0] == "call" else tree[3:]:
            if isinstance(part, tuple):
                yield from self.trees(part)

    def test_signatures(self):
        chance = random.Random(73)
        many, none = 0, 0
        for program in self.programs(chance, 60):
            reference = Reference(program)
            for module, text in program.items():
                for offset in chance.sample(range(len(text) + 1), min(len(text), 25)):
                    expected = self.signature(reference, module, offset)
                    self.assertEqual(signature_at(program, module, offset), expected, (program, module, offset))
                    many, none = many + (expected is not None), none + (expected is None)
        self.assertGreater(min(many, none), 100)

    def signature(self, reference, module, offset):
        found = None
        for chunk in reference.chunks_of(module):
            shift = reference.shift[module, chunk]
            if reference.has_body(module, chunk):
                for tree in self.trees(reference.items[module, chunk][-1]):
                    if tree[0] == "call" and shift + tree[1] < offset <= shift + tree[2]:
                        # Calls around an offset lie in each other: the shortest one is the innermost.
                        if found is None or tree[2] - tree[1] < found[2][2] - found[2][1]:
                            found = chunk, shift, tree
        if found is None:
            return None
        chunk, shift, tree = found
        symbol = reference.names(module, chunk)[2].get(tree[1])
        if symbol is None:
            return None
        item, number = reference.item_of(symbol), reference.declared[symbol[1]][symbol[2]][1]
        fields = {"data": 2, "trait": 4, "def": 3}[item[0]]
        rows = [mark[0] + ": " + self.written(reference, reference.kind_named(symbol[1], number, kind))
                for mark, kind in item[fields]]
        if item[0] == "trait":
            rows.insert(0, item[3][0])
        return tree[3], tuple(rows), sum(shift + part[2] < offset for part in tree[4])

    def test_callers(self):
        chance = random.Random(74)
        many = 0
        for program in self.programs(chance, 60):
            reference = Reference(program)
            for module in program:
                for start, end, symbol, _ in reference.occurrences(module):
                    if chance.random() < 0.5:
                        continue
                    expected = set()
                    for other, chunk in reference.items:
                        if reference.sort(symbol) in ("def", "method") and reference.has_body(other, chunk):
                            item, means = reference.items[other, chunk], reference.names(other, chunk)[2]
                            calls = [tree for tree in self.trees(item[-1]) if tree[0] == "call"]
                            if symbol in [means.get(tree[1]) for tree in calls]:
                                expected.add((other, reference.shift[other, chunk] + item[1][1]))
                    offset = chance.randrange(start, end)
                    self.assertEqual(callers(program, module, offset), sorted(expected), (program, module, offset))
                    many += len(expected)
        self.assertGreater(many, 100)

    def test_folds(self):
        chance = random.Random(75)
        many = 0
        for program in self.programs(chance, 90):
            for module, text in program.items():
                text = text.replace("def ", chance.choice(["def ", "# a\n def ", "def\n\n  "]))
                expected = []
                for start, end in chunks(text):
                    lines = [text.count("\n", 0, start + token[1]) for token in tokens(text[start:end])]
                    if lines and lines[-1] > text.count("\n", 0, start):
                        expected.append((text.count("\n", 0, start), lines[-1]))
                self.assertEqual(folds({"m": text}, "m"), expected)
                many += len(expected)
        self.assertGreater(many, 50)

    def test_nothing_is_changed_and_lists_are_new(self):
        program = {"m": "def f(a: Int) = let x = f(1) in\n  x\n"}
        for look, rest in ((colours, ()), (hints, ()), (folds, ()), (callers, (4,))):
            first = look(program, "m", *rest)
            self.assertGreater(len(first), 0)
            first.clear()
            self.assertGreater(len(look(program, "m", *rest)), 0)
        self.assertEqual(signature_at(program, "m", 27), ("f", ("a: Int",), 0))
        self.assertEqual(program, {"m": "def f(a: Int) = let x = f(1) in\n  x\n"})


if __name__ == "__main__":
    unittest.main()
