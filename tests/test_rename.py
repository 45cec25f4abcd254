"""Points 50 and 52: renaming, and the refusals of all changes."""

from samenames.changes import drop_parameter, extract, inline, rename, reorder
from samenames.check import all_occurrences
from samenames.moves import move, organise
from tests.helpers import at
from tests.refusals import ChangeTest

A = """import b: D, T, go, use
impl T for D = self.x + by
def f(d: D) = go(d, use(1)) + d.x + 2
"""
B = """data D(x: Int)
trait T with go(self, by: Int): Int
impl T for Int = self
def use[K: T](k: K) = let v = k in loop w = v times go(v, 1) do w
"""
PROGRAM = {"a": A, "b": B}


class RenameTest(ChangeTest):
    def test_the_example(self):
        self.assertEqual(rename({"m": "def f(n: Int) = n\n"}, "m", 6, "count"), {"m": "def f(count: Int) = count\n"})

    def check(self, module, offset, new, pairs):
        """All names of the pairs are replaced, from wherever the renaming is asked for, and back again."""
        expected = {}
        for name, text in PROGRAM.items():
            for old, row in pairs:
                text = text.replace(old, row)
            expected[name] = text
        self.changed(expected, rename, PROGRAM, module, offset, new)
        start, end, symbol, _ = [row for row in all_occurrences(PROGRAM, module) if row[0] <= offset < row[1]][0]
        name = PROGRAM[module][start:end]
        for other in PROGRAM:
            for row in all_occurrences(PROGRAM, other):
                if row[2] == symbol:
                    self.assertEqual(rename(PROGRAM, other, row[0], new), expected)
                    self.assertEqual(rename(PROGRAM, other, row[1] - 1, new), expected)
        for other in expected:
            for row in all_occurrences(expected, other):
                if expected[other][row[0]:row[1]] == new:
                    self.assertEqual(rename(expected, other, row[0], name), PROGRAM)

    def test_items(self):
        self.check("a", at(A, "D,"), "Data", [(" D,", " Data,"), (" D ", " Data "), (" D)", " Data)"), (" D(", " Data(")])
        self.check("a", at(A, "T,"), "Trait", [(" T,", " Trait,"), (" T ", " Trait "), (" T]", " Trait]")])
        self.check("b", at(B, "go"), "g", [("go", "g")])
        self.check("b", at(B, "use"), "longer_name_1", [("use", "longer_name_1")])
        self.check("a", at(A, "f("), "zz", [(" f(", " zz(")])

    def test_locals(self):
        self.check("b", at(B, "K:"), "Q", [("K", "Q")])
        self.check("b", at(B, "k:"), "q", [("k:", "q:"), ("= k", "= q")])
        self.check("b", at(B, "v ="), "q", [(" v ", " q "), ("(v,", "(q,")])
        self.check("b", at(B, "w ="), "q", [(" w ", " q "), (" w\n", " q\n")])
        self.check("a", at(A, "d:"), "q", [("(d", "(q"), (" d.", " q.")])

    def test_parameters_of_methods(self):
        self.check("b", at(B, "self"), "me", [("self", "me")])
        self.check("a", at(A, "by"), "more", [("by", "more")])

    def test_fields(self):
        self.check("a", at(A, "x +"), "value", [(".x", ".value"), ("(x", "(value")])

    def test_the_same_name(self):
        self.changed(PROGRAM, rename, PROGRAM, "b", at(B, "go"), "go")

    def test_no_symbol(self):
        for module, offset in (("a", 0), ("a", 6), ("a", 8), ("a", at(A, "2")), ("a", at(A, "+")), ("a", len(A)),
                               ("b", at(B, "Int")), ("a", 7), ("b", at(B, "let"))):
            self.refused(("symbol", module, offset), rename, PROGRAM, module, offset, "q")
            self.refused(("symbol", module, offset), rename, PROGRAM, module, offset, "1")

    def test_no_name(self):
        for new in ("", "1", "1a", "let", "Int Int", " a", "a ", "_a", "a-b", "True", "#", "a\n", "a.b", "a" + chr(233)):
            self.refused(("name", "b", 5), rename, PROGRAM, "b", 5, new)
        self.changed({"b": "data Int2_x(x: Int)\n"}, rename, {"b": "data D(x: Int)\n"}, "b", 5, "Int2_x")

    def test_unsound_comes_first(self):
        program = {"c": "def f() = 1\n", "b": "def f() = 1 + x\ndef g() = y\n", "d": "def\n"}
        for offset, new in ((4, "g"), (0, "g"), (4, "1")):
            self.refused(("unsound", "b", 14), rename, program, "c", offset, new)
        self.refused(("unsound", "b", 14), move, program, "c", 0, "q")
        self.refused(("unsound", "b", 14), organise, program, "c")
        self.refused(("unsound", "b", 14), extract, program, "c", 0, 1, "1")
        self.refused(("unsound", "b", 14), inline, program, "c", 0)
        self.refused(("unsound", "b", 14), reorder, program, "c", 0, [7])
        self.refused(("unsound", "b", 14), drop_parameter, program, "c", 0, 7)

    def test_comments_and_line_breaks_stay(self):
        text = "def f(a: Int) = # a\n  a # a a\n  + (a)\n# a\n"
        self.changed("def f(q: Int) = # a\n  q # a a\n  + (q)\n# a\n", rename, {"m": text}, "m", 6, "q")

    def test_names_that_shadow_each_other(self):
        text = "def x(x: Int) = let x = x + 1 in loop x = x times x do x\n"
        self.changed("def y(x: Int) = let x = x + 1 in loop x = x times x do x\n", rename, {"m": text}, "m", 4, "y")
        self.changed("def x(y: Int) = let x = y + 1 in loop x = x times x do x\n", rename, {"m": text}, "m", 6, "y")
        self.changed("def x(x: Int) = let y = x + 1 in loop x = y times y do x\n", rename, {"m": text}, "m", 20, "y")
        self.changed("def x(x: Int) = let x = x + 1 in loop y = x times x do y\n", rename, {"m": text}, "m", len(text) - 2, "y")


class ClashTest(ChangeTest):
    def clash(self, program, module, offset, new, expected, start):
        if isinstance(program, str):
            program = {"m": program}
        self.refused(("clash", expected, start), rename, program, module, offset, new)

    def test_a_name_that_is_taken(self):
        self.clash("def f() = 1\ndef g() = 2\n", "m", 4, "g", "m", 16)
        self.clash("def f() = 1\ndef g() = 2\n", "m", 16, "f", "m", 16)
        self.clash("data D(x: Int, y: Int)\n", "m", 7, "y", "m", 15)
        self.clash("data D(x: Int, y: Int)\n", "m", 15, "x", "m", 15)
        self.clash("def f[U, V](a: U, b: V) = 1\n", "m", 6, "V", "m", 9)
        self.clash("def f(a: Int, b: Int) = a + b\n", "m", 6, "b", "m", 14)
        self.clash("def f(a: Int, b: Int) = a + b\n", "m", 14, "a", "m", 14)
        self.clash("trait T with m(s, a: Int): Int\n", "m", 15, "a", "m", 18)
        # Both marks of a void item mean nothing, and its first one stands before the doubled one.
        self.clash("def f() = 1\ntrait T with m(s): Int\n", "m", 4, "m", "m", 18)
        self.clash("trait T with m(s): Int\n", "m", 6, "m", "m", 6)

    def test_a_name_that_is_captured(self):
        self.clash("def g() = 1\ndef f(a: Int) = g() + a\n", "m", 4, "a", "m", 28)
        self.clash("def f(a: Int) = let b = 1 in a + b\n", "m", 6, "b", "m", 29)
        self.clash("def f(a: Int) = loop b = a times a do a + b\n", "m", 6, "b", "m", 38)
        self.clash("data D()\ndef f[U](a: U, d: D) = 1\n", "m", 5, "U", "m", 27)

    def test_a_name_that_captures(self):
        self.clash("def g() = 1\ndef f(a: Int) = g() + a\n", "m", 18, "g", "m", 28)
        self.clash("def f(a: Int) = let b = 1 in a + b\n", "m", 20, "a", "m", 29)
        self.clash("data D()\ndef f[U](a: U, d: D) = 1\n", "m", 15, "D", "m", 27)
        self.clash("data D(x: Int)\ndef f(b: Bool) = 1\n", "m", 5, "Int", "m", 12)
        self.clash("data D(x: Int)\ndef f(b: Bool) = 1\n", "m", 5, "Bool", "m", 27)
        self.clash("def f(b: Bool) = 1\ntrait T with m(s): Int\n", "m", 25, "Bool", "m", 9)

    def test_other_modules(self):
        program = {"m": "import n: f\ndef g() = f()\n", "n": "def f() = 1\n"}
        self.clash(program, "n", 4, "g", "m", 16)
        self.clash(program, "m", 16, "f", "m", 16)
        program = {"m": "def g() = f()\nimport n: f\n", "n": "def f() = 1\n"}
        # The call means the item around it then, so this one is in a circle.
        self.clash(program, "n", 4, "g", "m", 4)
        program = {"m": "import n: f\nimport o: g\ndef h() = f() + g()\n", "n": "def f() = 1\n", "o": "def g() = 2\n"}
        self.clash(program, "o", 4, "f", "m", 22)
        self.clash(program, "n", 4, "g", "m", 22)
        program = {"b": "import c: D\ndef f(a: Int, d: D) = a\n", "c": "data D()\n"}
        self.clash(program, "c", 5, "Int", "b", 23)
        program = {"a": "import b: T\nimpl T for Int = let x = 1 in s + x\n", "b": "trait T with m(s): Int\n"}
        self.clash(program, "b", 15, "x", "a", at(program["a"], "s +"))
        self.clash(program, "a", at(program["a"], "x ="), "s", "a", at(program["a"], "s +"))

    def test_what_is_not_in_the_way(self):
        self.changed("def x() = 1\ndef g(b: Int) = x() + b\n", rename, {"m": "def f() = 1\ndef g(b: Int) = f() + b\n"}, "m", 4, "x")
        self.changed("def b() = 1\ndef g(b: Int) = b\n", rename, {"m": "def f() = 1\ndef g(b: Int) = b\n"}, "m", 4, "b")
        self.changed({"m": "def g() = 1\n", "n": "def g() = 1\n"}, rename, {"m": "def f() = 1\n", "n": "def g() = 1\n"}, "m", 4, "g")
        self.changed("data D(D: Int)\ndef f[x](f: x, x: D) = x.D\n", rename,
                     {"m": "data D(D: Int)\ndef f[U](f: U, x: D) = x.D\n"}, "m", 21, "x")
        self.changed("def f(a: Int) = (let a = 1 in a) + a\n", rename, {"m": "def f(a: Int) = (let b = 1 in b) + a\n"}, "m", 21, "a")
        # Names of modules are not in the way of others.
        self.changed({"m": "def n(m: Int) = m\n", "n": ""}, rename, {"m": "def f(m: Int) = m\n", "n": ""}, "m", 4, "n")

    def test_the_least_place_of_several(self):
        text = "def h(g: Int) = f() + g\ndef f() = 1\ndef g() = f()\n"
        self.clash(text, "m", at(text, "f() = 1"), "g", "m", 16)
        # Problems count, too: the second item of the name is void.
        self.clash(text, "m", at(text, "f() = 1"), "h", "m", 4)
        text = "def h(g: Int) = f() + g\ndef f() = 1\ndef k() = h(2)\n"
        self.clash(text, "m", at(text, "k()"), "f", "m", at(text, "k()"))


class LongTest(ChangeTest):
    def test_long_texts(self):
        for many, fits in ((4000, True), (4001, False)):
            text = "def f() = g()\ndef g() = 1\n"
            # Two names get one character more each.
            text += "#" * (many - 2 - len(text))
            program = {"m": text, "n": ""}
            if fits:
                self.assertEqual(len(rename(program, "m", 10, "gg")["m"]), 4000)
            else:
                self.refused(("long", "m", 0), rename, program, "m", 10, "gg")

    def test_the_first_module_that_is_too_long(self):
        rest = "#" * 3960
        program = {"c": "import b: f\ndef h() = f()\n" + rest, "b": "def f() = 1\n" + rest, "d": "import b: f\n" + rest}
        self.refused(("long", "b", 0), rename, program, "b", 4, "q" * 40)
        self.refused(("long", "c", 0), rename, program, "c", 10, "q" * 22)

    def test_long_comes_before_clash(self):
        text = "def f() = 1\ndef " + "g" * 30 + "() = 1\n"
        text += "#" * (4000 - len(text))
        self.refused(("long", "m", 0), rename, {"m": text}, "m", 4, "g" * 30)


if __name__ == "__main__":
    import unittest
    unittest.main()
