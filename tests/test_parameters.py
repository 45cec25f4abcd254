"""Points 59 and 60: reordering and dropping the fields of def items."""

import itertools
import unittest

from samenames.changes import drop_parameter, reorder
from tests.helpers import at
from tests.refusals import ChangeTest


class ReorderTest(ChangeTest):
    def test_fields_and_arguments(self):
        text = "def g(a: Int, b: Bool, c: Int) = if b then a else c\ndef f() = g(1, True, 3) + g(4,False,  6 )\n"
        fields, one, other = ["a: Int", "b: Bool", "c: Int"], ["1", "True", "3"], ["4", "False", "6"]
        for order in itertools.permutations(range(3)):
            expected = ("def g(%s, %s, %s) = if b then a else c\n" % tuple(fields[k] for k in order)
                        + "def f() = g(%s, %s, %s)" % tuple(one[k] for k in order)
                        + " + g(%s,%s,  %s )\n" % tuple(other[k] for k in order))
            self.changed(expected, reorder, {"m": text}, "m", 4, list(order))

    def test_number_k_has_the_text_of_number_order_k(self):
        text = "def g(a: Int, b: Int, c: Int) = a\ndef f() = g(1, 2, 3)\n"
        self.changed("def g(c: Int, a: Int, b: Int) = a\ndef f() = g(3, 1, 2)\n", reorder, {"m": text}, "m", 4, [2, 0, 1])

    def test_wherever_the_symbol_stands(self):
        program = {"m": "import n: g\ndef f() = g(1, 2)\n", "n": "def g(a: Int, b: Int) = a\ndef h() = g(3, 4)\n"}
        expected = {"m": "import n: g\ndef f() = g(2, 1)\n", "n": "def g(b: Int, a: Int) = a\ndef h() = g(4, 3)\n"}
        for module, offset in (("m", 10), ("m", at(program["m"], "g(")), ("n", 4), ("n", at(program["n"], "g(", 1))):
            self.changed(expected, reorder, program, module, offset, [1, 0])
            self.changed(program, reorder, expected, module, offset, [1, 0])

    def test_calls_inside_of_calls(self):
        text = "def g(a: Int, b: Int) = a\ndef f() = g(g(1, 2), g(3, g(4, 5)))\n"
        self.changed("def g(b: Int, a: Int) = a\ndef f() = g(g(g(5, 4), 3), g(2, 1))\n", reorder, {"m": text}, "m", 4, [1, 0])
        text = "def g(a: Int, b: Int) = a\ndef h(n: Int) = n\ndef f() = g(1 + h(g(2, 3)), (4)) + 1\n"
        self.changed("def g(b: Int, a: Int) = a\ndef h(n: Int) = n\ndef f() = g((4), 1 + h(g(3, 2))) + 1\n", reorder,
                     {"m": text}, "m", 4, [1, 0])
        text = "def g(a: Int, b: Int, c: Int) = a\ndef f() = g(1, g(2, g(3, 4, 5), 6), g(7, 8, 9))\n"
        self.changed("def g(b: Int, c: Int, a: Int) = a\ndef f() = g(g(g(4, 5, 3), 6, 2), g(8, 9, 7), 1)\n", reorder,
                     {"m": text}, "m", 4, [1, 2, 0])

    def test_line_breaks_and_comments_between_stay(self):
        text = "def g(a # a\n : Int, # b\n  b: Int # c\n ) = a\ndef f() = g(1 # d\n + 2, # e\n  3 # f\n )\n"
        expected = "def g(b: Int, # b\n  a # a\n : Int # c\n ) = a\ndef f() = g(3, # e\n  1 # d\n + 2 # f\n )\n"
        self.changed(expected, reorder, {"m": text}, "m", 4, [1, 0])

    def test_other_items_stay(self):
        text = ("data D(x: Int, y: Int)\ntrait T with go(s, b: Int): Int\nimpl T for Int = g(s, b)\n"
                "def g(a: Int, b: Int) = a - b\ndef h(a: Int, b: Int) = g(D(a, b).x, go(a, b))\n")
        expected = text.replace("g(s, b)", "g(b, s)").replace("g(a: Int, b: Int)", "g(b: Int, a: Int)")
        expected = expected.replace("g(D(a, b).x, go(a, b))", "g(go(a, b), D(a, b).x)")
        self.changed(expected, reorder, {"m": text}, "m", at(text, "g(a: Int"), [1, 0])

    def test_bounds_stay(self):
        text = "def g[U, V](a: U, b: V) = 1\ndef f() = g(1, True)\n"
        self.changed("def g[U, V](b: V, a: U) = 1\ndef f() = g(True, 1)\n", reorder, {"m": text}, "m", 4, [1, 0])

    def test_no_and_one_field(self):
        text = "def g() = 1\ndef f() = g()\n"
        self.changed(text, reorder, {"m": text}, "m", 4, [])
        text = "def g(a: Int) = 1\ndef f() = g(g(2))\n"
        self.changed(text, reorder, {"m": text}, "m", 4, [0])

    def test_the_same_order(self):
        text = "def g(a: Int, b: Int) = 1\ndef f() = g(g(1, 2), 3)\n"
        self.changed(text, reorder, {"m": text}, "m", 4, [0, 1])

    def test_lists_that_are_no_rearrangement(self):
        text = "def g(a: Int, b: Int) = 1\ndef f() = g(2, 1)\n"
        for order in ([], [0], [1], [0, 0], [1, 1], [0, 1, 2], [1, 2], [-1, 0], [0, 1, 1], [2, 0], [-2, -1]):
            self.refused(("order", "m", 4), reorder, {"m": text}, "m", 4, order)
            self.refused(("order", "m", at(text, "g(2")), reorder, {"m": text}, "m", at(text, "g(2"), order)
        self.refused(("order", "m", at(text, "f()")), reorder, {"m": text}, "m", at(text, "f()"), [0])

    def test_the_list_stays(self):
        order = [1, 0]
        reorder({"m": "def g(a: Int, b: Int) = 1\n"}, "m", 4, order)
        self.assertEqual(order, [1, 0])

    def test_no_def_item(self):
        text = "import n: h\ndata D(x: Int)\ntrait T with go(s): Int\ndef g[U](a: Int, d: D) = let v = a in v + d.x + h()\n"
        program = {"m": text, "n": "def h() = 1\n"}
        for part in ("import", "n:", "D(x", "x:", "T with", "go", "s)", "U]", "a:", "d:", "D)", "v =", "a in", "x + h", "=", "Int"):
            for change, rest in ((reorder, [0, 1]), (drop_parameter, 0)):
                self.refused(("symbol", "m", at(text, part)), change, program, "m", at(text, part), rest)

    def test_unsound_comes_first(self):
        self.refused(("unsound", "m", 0), reorder, {"m": "f\n"}, "m", 0, [])
        self.refused(("unsound", "m", 0), drop_parameter, {"m": "f\n"}, "m", 0, 0)

    def test_arguments_that_are_not_safe_are_moved_all_the_same(self):
        text = "def g(a: Int, b: Int) = a\ndef f() = g(1 / 0, g(2, 3))\n"
        self.changed("def g(b: Int, a: Int) = a\ndef f() = g(g(3, 2), 1 / 0)\n", reorder, {"m": text}, "m", 4, [1, 0])


class DropTest(ChangeTest):
    def test_each_field(self):
        text = "def g( a: Int , b: Int , c: Int ) = 1\ndef f() = g( 1 , 2 , 3 ) + g(4,5,6)\n"
        for index, expected in enumerate((
                "def g( b: Int , c: Int ) = 1\ndef f() = g( 2 , 3 ) + g(5,6)\n",
                "def g( a: Int , c: Int ) = 1\ndef f() = g( 1 , 3 ) + g(4,6)\n",
                "def g( a: Int , b: Int ) = 1\ndef f() = g( 1 , 2 ) + g(4,5)\n")):
            self.changed(expected, drop_parameter, {"m": text}, "m", 4, index)

    def test_the_only_field(self):
        text = "def g( a: Int ) = 1\ndef f() = g( 1 + 2 # x\n )\n"
        self.changed("def g(  ) = 1\ndef f() = g(  # x\n )\n", drop_parameter, {"m": text}, "m", 4, 0)

    def test_line_breaks_and_comments(self):
        text = "def g(a: Int # a\n , # b\n b # c\n : Int # d\n , # e\n c: Int # f\n ) = 1\n"
        self.changed("def g(b # c\n : Int # d\n , # e\n c: Int # f\n ) = 1\n", drop_parameter, {"m": text}, "m", 4, 0)
        self.changed("def g(a: Int # d\n , # e\n c: Int # f\n ) = 1\n", drop_parameter, {"m": text}, "m", 4, 1)
        self.changed("def g(a: Int # a\n , # b\n b # c\n : Int # f\n ) = 1\n", drop_parameter, {"m": text}, "m", 4, 2)

    def test_calls_in_the_arguments_that_stay(self):
        text = "def g(a: Int, b: Int) = a\ndef f() = g(g(g(1, 2), 3), 4 + 5) + g(6 / g(7, 8), 9)\n"
        self.changed("def g(a: Int) = a\ndef f() = g(g(g(1))) + g(6 / g(7))\n", drop_parameter, {"m": text}, "m", 4, 1)
        text = "def g(a: Int, b: Int) = b\ndef f() = g(1, g(2, g(3, 4)))\n"
        self.changed("def g(b: Int) = b\ndef f() = g(g(g(4)))\n", drop_parameter, {"m": text}, "m", 4, 0)

    def test_wherever_the_symbol_stands(self):
        program = {"m": "import n: g\ndef f() = g(1, 2)\n", "n": "def g(a: Int, b: Int) = a\ndef h() = g(3, 4)\n"}
        expected = {"m": "import n: g\ndef f() = g(1)\n", "n": "def g(a: Int) = a\ndef h() = g(3)\n"}
        for module, offset in (("m", 10), ("m", at(program["m"], "g(")), ("n", 4), ("n", at(program["n"], "g(", 1))):
            self.changed(expected, drop_parameter, program, module, offset, 1)

    def test_no_field_with_this_number(self):
        text = "def g(a: Int, b: Int) = a + b\ndef f() = g(1, 1 / 0) + h()\ndef h() = 1\n"
        for index in (-1, 2, 3, -2):
            self.refused(("order", "m", 4), drop_parameter, {"m": text}, "m", 4, index)
        for index in (0, 1, -1):
            self.refused(("order", "m", at(text, "h()")), drop_parameter, {"m": text}, "m", at(text, "h()"), index)

    def test_fields_that_are_used(self):
        text = "def f() = g(1 / 0, 2)\ndef g(a: Int, b: Int) = let a = 3 in a + b * b\n"
        start = at(text, "b * b")
        self.refused(("used", "m", start), drop_parameter, {"m": text}, "m", at(text, "g("), 1)
        # The other one is shadowed.
        self.refused(("unsafe", "m", at(text, "1 / 0")), drop_parameter, {"m": text}, "m", at(text, "g("), 0)
        program = {"m": "import n: g\ndef f() = g(1)\n", "n": "# note\ndef g(a: Int) = a\n"}
        self.refused(("used", "n", 23), drop_parameter, program, "m", 10, 0)

    def test_arguments_that_are_not_safe(self):
        program = {"o": "def g(a: Int, b: Int) = a\n",
                   "m": "import o: g\n# note\ndef f() = g(1 / 0, 2) + g(1, 3 / 1) + g(2, g(4, 5))\n",
                   "p": "import o: g\ndef f() = g(1, g(2, 3))\n"}
        self.refused(("unsafe", "m", at(program["m"], "3 / 1")), drop_parameter, program, "o", 4, 1)
        program["m"] = program["m"].replace("3 / 1", "3 - 1")
        self.refused(("unsafe", "m", at(program["m"], "g(4")), drop_parameter, program, "p", 10, 1)
        program["m"] = program["m"].replace("g(4, 5)", "4")
        self.refused(("unsafe", "p", at(program["p"], "g(2")), drop_parameter, program, "p", 10, 1)
        program["p"] = program["p"].replace("g(2, 3)", "(2)")
        self.changed({"o": "def g(a: Int) = a\n", "m": "import o: g\n# note\ndef f() = g(1 / 0) + g(1) + g(2)\n",
                      "p": "import o: g\ndef f() = g(1)\n"}, drop_parameter, program, "p", 10, 1)

    def test_the_least_of_several(self):
        text = "def f() = g(g(1, 2 / 1), 3 / 1) + g(4, 5 / 1)\ndef g(a: Int, b: Int) = a\n"
        # The argument of the inner call stands before that of the outer one.
        self.refused(("unsafe", "m", at(text, "2 / 1")), drop_parameter, {"m": text}, "m", at(text, "g(a"), 1)

    def test_an_open_kind(self):
        # Without the argument nothing tells the bound.
        text = "def g[U](a: Int, u: U) = a\ndef f() = g(1, 2)\n"
        self.refused(("clash", "m", at(text.replace(", u: U", ""), "g(1")), drop_parameter, {"m": text}, "m", 4, 1)
        text = "def g[U](a: Int, u: U) = a\n"
        self.changed("def g[U](a: Int) = a\n", drop_parameter, {"m": text}, "m", 4, 1)

    def test_long(self):
        # Nothing grows, so only an old text could be too long.
        text = "def g(a: Int) = 1\n"
        text += "#" * (4000 - len(text))
        self.assertEqual(len(drop_parameter({"m": text}, "m", 4, 0)["m"]), 3994)


if __name__ == "__main__":
    unittest.main()
