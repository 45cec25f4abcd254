"""Points 53 to 55: organising imports, and moving items."""

from samenames.moves import move, organise
from tests.helpers import at
from tests.refusals import ChangeTest

LIB = """data D(x: Int)
trait T with go(self, by: Int): Int
def area(d: D) = d.x * d.x
def less(a: Int) = a - 1
"""


class OrganiseTest(ChangeTest):
    def test_imports_at_several_places(self):
        text = """import lib: less
def f(d: D) = less(area(d)) + one()
import more: one
# a note
import lib: area, D
impl T for D = by

import lib: T
"""
        expected = """import lib: D, T, area, less
import more: one
def f(d: D) = less(area(d)) + one()
# a note
impl T for D = by

"""
        program = {"m": text, "lib": LIB, "more": "def one() = 1\n"}
        self.changed({**program, "m": expected}, organise, program, "m")
        self.changed({**program, "m": expected}, organise, {**program, "m": expected}, "m")

    def test_names_that_are_not_used(self):
        program = {"m": "import lib: D, T, go, area, less\ndef f() = less(1)\n", "lib": LIB}
        self.changed({"m": "import lib: less\ndef f() = less(1)\n", "lib": LIB}, organise, program, "m")
        program["m"] = "import lib: D\nimport lib: T\n"
        self.changed({"m": "", "lib": LIB}, organise, program, "m")
        program["m"] = "import lib: D\ndef f() = 1"
        self.changed({"m": "def f() = 1", "lib": LIB}, organise, program, "m")

    def test_imports_over_several_lines(self):
        text = "\n  # x\nimport # a\n  lib # D\n :less,\n\n   D # b\n\n# less\ndef f(d: D) = less(d.x)\n"
        expected = "import lib: D, less\n\n  # x\n# less\ndef f(d: D) = less(d.x)\n"
        self.changed({"m": expected, "lib": LIB}, organise, {"m": text, "lib": LIB}, "m")

    def test_fields_and_parameters_of_other_modules_are_not_imported(self):
        program = {"m": "import more: one\nimport lib: T\ndef f() = one().x + one().x\nimpl T for Int = self + by\n",
                   "lib": LIB, "more": "import lib: D\ndef one() = D(1)\n"}
        expected = "import lib: T\nimport more: one\ndef f() = one().x + one().x\nimpl T for Int = self + by\n"
        self.changed({**program, "m": expected}, organise, program, "m")

    def test_uppercase_names_stand_before_lowercase_ones(self):
        program = {"m": "import b: z, a, Z, A_, A1\ndef f() = z() + a() + Z() + A_() + A1()\n",
                   "b": "def z() = 1\ndef a() = 1\ndef Z() = 1\ndef A_() = 1\ndef A1() = 1\n"}
        expected = "import b: A1, A_, Z, a, z\ndef f() = z() + a() + Z() + A_() + A1()\n"
        self.changed({**program, "m": expected}, organise, program, "m")

    def test_nothing_to_organise(self):
        for text in ("", "\n", "  x y\n", "# a", "def f() = 1"):
            self.changed(text, organise, {"m": text}, "m")

    def test_other_modules_stay(self):
        program = {"m": "import lib: D\n", "n": "import lib: D\n", "lib": LIB}
        self.changed({**program, "m": ""}, organise, program, "m")

    def test_what_stood_before_the_first_chunk_becomes_part_of_an_import(self):
        program = {"m": "  x y\nimport lib: less\ndef f() = less(1)\n", "lib": LIB}
        # The import cannot be read, so that its names mean nothing.
        self.refused(("clash", "m", len("import ")), organise, program, "m")
        program["m"] = "  x y\nimport lib: less\ndef f() = 1\n"
        self.changed({**program, "m": "  x y\ndef f() = 1\n"}, organise, program, "m")
        program["m"] = "  1 # y\nimport lib: less\ndef f() = less(1)\n"
        self.refused(("clash", "m", len("import ")), organise, program, "m")
        # Here it can, but one name is none that was taken over.
        program["m"] = "  , area\nimport lib: less\ndef f() = less(1)\n"
        self.refused(("clash", "m", len("import lib: less\n  , ")), organise, program, "m")
        program["m"] = "  # y\nimport lib: less\ndef f() = less(1)\n"
        self.changed({**program, "m": "import lib: less\n  # y\ndef f() = less(1)\n"}, organise, program, "m")

    def test_unsound(self):
        self.refused(("unsound", "n", 7), organise, {"m": "", "n": "import o: x\n"}, "m")

    def test_long(self):
        # The text fits as it is, but not when the long name is imported once more than before.
        names = ", ".join(["g"] + ["h%d" % number for number in range(8)])
        lib = "".join("def %s() = 1\n" % name for name in names.split(", "))
        text = "import lib:%s\ndef f() = %s\n" % (names.replace(" ", ""), " + ".join(name + "()" for name in names.split(", ")))
        for rest, fits in ((9, True), (8, False)):
            program = {"m": text + "#" * (4000 - rest - len(text)), "lib": lib}
            if fits:
                self.assertEqual(len(organise(program, "m")["m"]), 4000)
            else:
                self.refused(("long", "m", 0), organise, program, "m")


class MoveTest(ChangeTest):
    def test_to_an_empty_text(self):
        program = {"a": "def f() = 1\ndef g() = 2\n", "b": ""}
        self.changed({"a": "def g() = 2\n", "b": "def f() = 1\n"}, move, program, "a", 4, "b")
        self.changed({"a": "def f() = 1\n", "b": "def g() = 2\n"}, move, program, "a", 16, "b")
        self.changed({"a": "", "b": "def f() = 1"}, move, {"a": "def f() = 1", "b": ""}, "a", 4, "b")

    def test_to_a_text_without_a_newline_at_the_end(self):
        for text in ("def g() = 2", "# note", "   ", "\n  "):
            self.changed({"a": "", "b": text + "\ndef f() = 1\n"}, move, {"a": "def f() = 1\n", "b": text}, "a", 4, "b")
            self.changed({"a": "", "b": text + "\ndef f() = 1\n"}, move, {"a": "def f() = 1\n", "b": text + "\n"}, "a", 4, "b")
        self.changed({"a": "", "b": "\ndef f() = 1\n"}, move, {"a": "def f() = 1\n", "b": "\n"}, "a", 4, "b")

    def test_to_a_text_that_ends_with_an_import(self):
        # The newline behind it belongs to its chunk, and goes away with it.
        program = {"a": "def f() = 1\n", "b": "import c: x", "c": "def x() = 1\n"}
        self.changed({**program, "a": "", "b": "def f() = 1\n"}, move, program, "a", 4, "b")
        program["b"] = "def g() = x()\nimport c: x # note"
        self.changed({**program, "a": "", "b": "import c: x\ndef g() = x()\ndef f() = 1\n"}, move, program, "a", 4, "b")
        program["b"] += "\n"
        self.changed({**program, "a": "", "b": "import c: x\ndef g() = x()\ndef f() = 1\n"}, move, program, "a", 4, "b")

    def test_the_whole_chunk_is_moved(self):
        program = {"a": "\n  # start\ndef f() # note\n  = 1\n\n  # end\n# other\ndef g() = 2\n", "b": ""}
        self.changed({"a": "\n  # start\n# other\ndef g() = 2\n", "b": "def f() # note\n  = 1\n\n  # end\n"},
                     move, program, "a", at(program["a"], "f()"), "b")

    def test_items_that_are_imported_elsewhere(self):
        program = {"a": "def f() = 1\ndef g() = f()\n", "b": "def h() = 2\n", "c": "import a: g, f\ndef i() = f() + g()\n",
                   "d": "import a: f\n", "e": "import a: g\nimport b: h\ndef j() = g()\n"}
        expected = {"a": "import b: f\ndef g() = f()\n", "b": "def h() = 2\ndef f() = 1\n",
                    "c": "import a: g\nimport b: f\ndef i() = f() + g()\n", "d": "",
                    # This one imported another item of the module; its imports are not looked at.
                    "e": "import a: g\nimport b: h\ndef j() = g()\n"}
        self.changed(expected, move, program, "a", 4, "b")
        # The symbol counts, wherever it stands.
        self.changed(expected, move, program, "a", at(program["a"], "f()", 1), "b")
        self.changed(expected, move, program, "c", at(program["c"], "f()"), "b")
        self.changed(expected, move, program, "d", at(program["d"], "f"), "b")

    def test_items_that_use_items_of_their_module(self):
        program = {"a": "import c: one\ndata D(x: Int)\ndef f(d: D) = g(d.x) + one() + h()\ndef g(n: Int) = n\n",
                   "b": "def h() = 1\n", "c": "def one() = 1\n"}
        program["a"] = "import b: h\n" + program["a"]
        expected = {"a": "data D(x: Int)\ndef g(n: Int) = n\n",
                    "b": "import a: D, g\nimport c: one\ndef h() = 1\ndef f(d: D) = g(d.x) + one() + h()\n",
                    "c": program["c"]}
        self.changed(expected, move, program, "a", at(program["a"], "f("), "b")

    def test_a_data_item(self):
        program = {"a": "data D(x: Int)\ndef f(d: D) = d.x + D(2).x\n", "b": "import a: D\ndef g(d: D): D = D(d.x)\n"}
        expected = {"a": "import b: D\ndef f(d: D) = d.x + D(2).x\n", "b": "def g(d: D): D = D(d.x)\ndata D(x: Int)\n"}
        self.changed(expected, move, program, "a", 5, "b")

    def test_a_trait_with_its_method(self):
        program = {"a": "trait T with go(self, by: D): Int\ndata D(x: Int)\nimpl T for D = self.x + by.x\n",
                   "b": "import a: T, D\nimpl T for Int = self + by.x\ndef f(d: D) = 1\n",
                   "c": "import a: go, D, T\ndef g[U: T](u: U, d: D) = go(u, d)\n"}
        expected = {"a": "import b: T\ndata D(x: Int)\nimpl T for D = self.x + by.x\n",
                    "b": "import a: D\nimpl T for Int = self + by.x\ndef f(d: D) = 1\ntrait T with go(self, by: D): Int\n",
                    "c": "import a: D\nimport b: T, go\ndef g[U: T](u: U, d: D) = go(u, d)\n"}
        for module, part in (("a", "T with"), ("a", "go"), ("b", "T,"), ("c", "go,"), ("c", "T](")):
            self.changed(expected, move, program, module, at(program[module], part), "b")

    def test_there_and_back(self):
        program = {"a": "import b: h\ndef g(n: Int) = f(n)\ndef f(n: Int) = n + h()\n", "b": "def h() = 1\n",
                   "c": "import a: f\ndef i() = f(3)\n"}
        moved = move(program, "a", at(program["a"], "f("), "b")
        self.assertEqual(moved["b"], "def h() = 1\ndef f(n: Int) = n + h()\n")
        self.changed(program, move, moved, "b", at(moved["b"], "f("), "a")

    def test_no_item(self):
        program = {"a": "import b: h\ndata D(x: Int)\ndef f[U](n: U, d: D) = let v = h() in v + d.x\n", "b": "def h() = 1\n"}
        text = program["a"]
        for offset in (0, 6, 7, 8, at(text, "x:"), at(text, "Int"), at(text, "U]"), at(text, "n:"), at(text, "v ="),
                       at(text, "v +"), at(text, "x\n"), at(text, "+"), len(text)):
            for goal in ("b", "a", "q"):
                self.refused(("symbol", "a", offset), move, program, "a", offset, goal)

    def test_no_goal(self):
        program = {"a": "def f() = 1\n", "b": "import a: f\ndef g() = f()\n"}
        for goal in ("a", "q", "", "1", "f", "A"):
            self.refused(("goal", "a", 4), move, program, "a", 4, goal)
        # The module that declares the symbol counts, not the one that was asked.
        self.refused(("goal", "b", 10), move, program, "b", 10, "a")
        self.changed({"a": "", "b": "def g() = f()\ndef f() = 1\n"}, move, program, "b", 10, "b")

    def test_a_name_that_is_taken_in_the_goal(self):
        self.refused(("clash", "b", 16), move, {"a": "def f() = 1\n", "b": "def f() = 2\n"}, "a", 4, "b")
        program = {"a": "def f() = h()\ndef h() = 1\n", "b": "def h() = 2\n"}
        # The import comes first, so the item of the goal is void.
        self.refused(("clash", "b", len("import a: h\ndef ")), move, program, "a", 4, "b")
        program = {"a": "def f() = 1\n", "b": "import c: f\ndef g() = f()\n", "c": "def f() = 2\n"}
        self.refused(("clash", "b", len("import c: f\ndef g() = f()\ndef ")), move, program, "a", 4, "b")

    def test_a_name_that_is_taken_where_it_is_imported(self):
        program = {"a": "def f() = 1\n", "b": "", "c": "import a: f\ndef b() = f()\n"}
        # Modules have names of their own.
        self.changed({"a": "", "b": "def f() = 1\n", "c": "import b: f\ndef b() = f()\n"}, move, program, "a", 4, "b")
        program = {"a": "data Int2()\ndef f(n: Int) = n\n", "b": "data Int()\n", "c": ""}
        # The built-in kind is another one there.
        self.refused(("clash", "b", len("data Int()\ndef f(n: ")), move, program, "a", at(program["a"], "f("), "b")

    def test_an_item_of_the_scope_that_captures(self):
        program = {"a": "def f(n: Bool) = n\n", "b": "import c: Bool\ndef g(b: Bool) = 1\n", "c": "data Bool()\n"}
        self.refused(("clash", "b", len("import c: Bool\ndef g(b: Bool) = 1\ndef f(n: ")), move, program, "a", 4, "b")
        # Without a use, the import goes away.
        program["b"] = "import c: Bool\n"
        self.changed({**program, "a": "", "b": "def f(n: Bool) = n\n"}, move, program, "a", 4, "b")

    def test_what_stands_before_the_first_chunk(self):
        program = {"a": "def f() = g()\ndef g() = 1\n", "b": "  x\n"}
        self.refused(("clash", "b", len("import ")), move, program, "a", 4, "b")
        self.changed({"a": "import b: g\ndef f() = g()\n", "b": "  x\ndef g() = 1\n"}, move, program, "a", 18, "b")

    def test_long(self):
        program = {"a": "def f() = 1\n", "b": "#" * 3988 + "\n"}
        self.refused(("long", "b", 0), move, program, "a", 4, "b")
        program["b"] = "#" * 3988
        self.refused(("long", "b", 0), move, program, "a", 4, "b")
        program["b"] = "#" * 3987
        self.assertEqual(len(move(program, "a", 4, "b")["b"]), 4000)

    def test_unsound_comes_first(self):
        program = {"a": "def f() = 1\n", "b": "def"}
        self.refused(("unsound", "b", 3), move, program, "a", 0, "q")


if __name__ == "__main__":
    import unittest
    unittest.main()
