"""Points 57 and 58: safe trees, and putting values in place of locals and calls."""

import unittest

from samenames.changes import inline, is_safe
from samenames.scopes import items
from samenames.trees import nodes
from tests.helpers import at
from tests.refusals import ChangeTest


class SafeTest(unittest.TestCase):
    program = {"m": "import n: E, one\ndata D(x: Int, y: Int)\ntrait T with go(s): Int\nimpl T for Int = 1\n"
                    "def two(a: Int) = a\ndef f(a: Int, b: Bool, d: D) = ",
               "n": "data E()\ndef one() = 1\n"}

    def check(self, text, safe):
        program = {**self.program, "m": self.program["m"] + text + "\n"}
        tree = items(program, "m")[5][-1]
        self.assertIs(is_safe(program, "m", 5, tree), safe, text)
        # Each tree inside of a safe one is safe.
        if safe:
            for node in nodes(tree):
                self.assertIs(is_safe(program, "m", 5, node), True, text)

    def test_safe_trees(self):
        for text in ("1", "True", "a", "(a)", "not b", "- a", "d.x", "if b then a else 1", "let v = a in v + 1",
                     "a + 1", "a - 1", "a * 1", "a < 1", "a == 1", "b and True", "b or True", "D(1, a)", "E()",
                     "D(- a, d.x + 1).x", "not (let v = a in if v == 1 then b else d.y < 2)", "(((E())))"):
            self.check(text, True)

    def test_trees_that_are_not_safe(self):
        for text in ("a / 2", "two(1)", "one()", "go(1)", "loop v = 1 times 2 do v"):
            self.check(text, False)
            for around in ("(#)", "- #", "# + 1", "1 - #", "# < 1", "# == #", "let v = # in 1", "let v = 1 in #",
                           "if b then # else 1", "if b then 1 else #", "if # < 1 then 1 else 1", "D(#, 1)", "D(1, #)",
                           "D(1, #).x", "not # == 1", "b and # < 1", "b or # < 1", "two(#)", "two(1)", "1 / #",
                           "loop v = # times 1 do 1"):
                self.check(around.replace("#", "(" + text + ")"), False)

    def test_names_that_mean_nothing(self):
        program = {"m": "def f(a: Int) = q(1) + a(2) + f\n"}
        tree = items(program, "m")[0][-1]
        self.assertEqual([is_safe(program, "m", 0, node) for node in nodes(tree)],
                         [False, False, False, True, False, True, True])

    def test_impls(self):
        program = {"m": "trait T with go(s): Int\nimpl T for Int = s + 1\nimpl T for Bool = go(1)\n"}
        self.assertIs(is_safe(program, "m", 1, items(program, "m")[1][-1]), True)
        self.assertIs(is_safe(program, "m", 2, items(program, "m")[2][-1]), False)


class InlineLetTest(ChangeTest):
    def gives(self, text, expected, number=0, **others):
        """Inlining at the name of the let with this number, and at each use, gives what is expected."""
        start = at(text, "let ", number) + 4
        self.changed({**others, "m": expected}, inline, {**others, "m": text}, "m", start)

    def test_uses(self):
        self.gives("def f() = let v = 1 in 2\n", "def f() = (2)\n")
        self.gives("def f() = let v = 1 in v\n", "def f() = ((1))\n")
        self.gives("def f() = 1 + (let v = 1 + 2 in v * v - 3)\n", "def f() = 1 + (((1 + 2) * (1 + 2) - 3))\n")

    def test_each_offset_of_the_local(self):
        text = "def f() = let vv = 1 in vv + 2 + vv\n"
        for offset in (14, 15, 24, 25, 33, 34):
            self.changed("def f() = ((1) + 2 + (1))\n", inline, {"m": text}, "m", offset)
        for offset in (4, 10, 12, 13, 16, 17, 19, 26, 31, 35):
            self.refused(("symbol", "m", offset), inline, {"m": text}, "m", offset)

    def test_the_other_text_stays(self):
        text = "def f() = # a\n  let v = # b\n   1 # c\n in # d\n  v +\n  v # e\n\n# g\n"
        self.changed("def f() = # a\n  ((1) +\n  (1)) # e\n\n# g\n", inline, {"m": text}, "m", at(text, "v ="))
        text = "def f() = let v = 1 # c\n   + 2 in v\n"
        self.changed("def f() = ((1 # c\n   + 2))\n", inline, {"m": text}, "m", at(text, "v ="))

    def test_lets_inside(self):
        text = "def f(a: Int) = let x = (let y = a in y + y) in let z = x in x + z\n"
        copy = "((let y = a in y + y))"
        self.gives(text, "def f(a: Int) = (let z = " + copy + " in " + copy + " + z)\n")
        self.gives(text, "def f(a: Int) = let x = (((a) + (a))) in let z = x in x + z\n", 1)
        self.gives(text, "def f(a: Int) = let x = (let y = a in y + y) in (x + (x))\n", 2)

    def test_shadows(self):
        text = "def f(x: Int) = let x = x + 1 in let x = x + 2 in x * x\n"
        self.gives(text, "def f(x: Int) = (let x = (x + 1) + 2 in x * x)\n")
        self.gives(text, "def f(x: Int) = let x = x + 1 in ((x + 2) * (x + 2))\n", 1)

    def test_impls(self):
        text = "trait T with go(s): Int\nimpl T for Int = let v = s in v + 1\n"
        self.gives(text, "trait T with go(s): Int\nimpl T for Int = ((s) + 1)\n")

    def test_values_that_are_not_safe(self):
        program = {"n": "def g() = 1\n"}
        for value in ("1 / 2", "g()", "(loop w = 1 times 2 do w)", "1 + g()"):
            for body in ("v", "3", "v + v"):
                text = "import n: g\ndef f() = let v = " + value + " in " + body + "\n"
                start = at(text, value)
                self.refused(("unsafe", "m", start), inline, {**program, "m": text}, "m", at(text, "v ="))
        # What is not safe in the body is no matter.
        self.gives("import n: g\ndef f() = let v = 1 in g() / v\n", "import n: g\ndef f() = (g() / (1))\n", **program)

    def test_a_local_that_is_captured(self):
        text = "def f(x: Int) = let v = x + 1 in let x = 2 in v + x\n"
        # The copy of the first one would mean the second one.
        expected = at("def f(x: Int) = (let x = 2 in (x + 1) + x)\n", "x + 1")
        self.refused(("clash", "m", expected), inline, {"m": text}, "m", at(text, "v ="))
        text = "def f(x: Int) = let v = x in loop x = v times v do x + v\n"
        expected = at("def f(x: Int) = (loop x = (x) times (x) do x + (x))\n", "(x))") + 1
        self.refused(("clash", "m", expected), inline, {"m": text}, "m", at(text, "v ="))
        # Without a use there, all is well.
        self.gives("def f(x: Int) = let v = x in loop x = v times v do x\n",
                   "def f(x: Int) = (loop x = (x) times (x) do x)\n")

    def test_an_item_that_is_captured(self):
        # The value of a let stands outside of its own local.
        text = "data D(x: Int)\ndef f() = let v = D(1) in let D = v in D.x\n"
        expected = at("data D(x: Int)\ndef f() = (let D = (D(1)) in D.x)\n", "D(1)")
        self.assertEqual(inline({"m": text}, "m", at(text, "v ="))["m"][expected:expected + 4], "D(1)")
        text = "data D(x: Int)\ndef f() = let v = D(1) in let D = 2 in v.x + D\n"
        expected = at("data D(x: Int)\ndef f() = (let D = 2 in (D(1)).x + D)\n", "D(1)")
        self.refused(("clash", "m", expected), inline, {"m": text}, "m", at(text, "v ="))

    def test_nested_too_deep(self):
        # Brackets are values inside of values: with two more of them there are too many.
        text = "def f() = " + "(" * 28 + "let v = 1 in v" + ")" * 28 + "\n"
        self.refused(("clash", "m", 4), inline, {"m": text}, "m", at(text, "v ="))
        text = "def f() = " + "(" * 27 + "let v = 1 in v" + ")" * 27 + "\n"
        self.changed(text.replace("let v = 1 in v", "((1))"), inline, {"m": text}, "m", at(text, "v ="))

    def test_too_many_tokens(self):
        text = "def f() = let v = " + "+".join(["1"] * 20) + " in " + "+".join(["v"] * 7) + "\n"
        self.assertEqual(inline({"m": text}, "m", at(text, "v ="))["m"].count("1"), 140)
        text = "def f() = let v = " + "+".join(["1"] * 20) + " in " + "+".join(["v"] * 8) + "\n"
        self.refused(("clash", "m", 4), inline, {"m": text}, "m", at(text, "v ="))

    def test_long(self):
        text = "def f() = let v = 1 in " + " " * 1000 + "v + v + 12345678901234567890\n"
        more = "def g() = 1\n" + "#" * 2900
        program = {"m": text + more}
        self.assertLess(len(inline(program, "m", 14)["m"]), 4000)
        value = "12345" * 40
        text = "def f() = let v = " + value + " in " + " + ".join(["v"] * 19) + "\n"
        self.assertEqual(inline({"m": text}, "m", 14)["m"].count(value), 19)
        text = text.replace("\n", " + v\n")
        self.refused(("long", "m", 0), inline, {"m": text}, "m", 14)


class InlineCallTest(ChangeTest):
    def test_a_def_item_of_the_same_module(self):
        text = "def g(a: Int, b: Int) = a * b + 1\ndef f(n: Int) = g(n, 2) + g(1, g(n + 1, 3))\n"
        value = "a * b + 1"
        first = "(let a = n in let b = 2 in " + value + ")"
        self.changed(text.replace("g(n, 2)", first), inline, {"m": text}, "m", at(text, "g(n, 2)"))
        outer = "(let a = 1 in let b = g(n + 1, 3) in " + value + ")"
        self.changed(text.replace("g(1, g(n + 1, 3))", outer), inline, {"m": text}, "m", at(text, "g(1"))
        inner = "(let a = n + 1 in let b = 3 in " + value + ")"
        self.changed(text.replace("g(n + 1, 3)", inner), inline, {"m": text}, "m", at(text, "g(n +"))

    def test_no_fields(self):
        text = "def g() = if True then 1 else 2\ndef f() = g() + 1\n"
        expected = text.replace("g() + 1", "(if True then 1 else 2) + 1")
        self.changed(expected, inline, {"m": text}, "m", at(text, "g() +"))

    def test_each_offset_of_the_name(self):
        text = "def gg() = 1\ndef f() = gg ( ) + 1\n"
        for offset in (23, 24):
            self.changed("def gg() = 1\ndef f() = (1) + 1\n", inline, {"m": text}, "m", offset)
        for offset in (4, 5, 17, 22, 25, 26):
            self.refused(("symbol", "m", offset), inline, {"m": text}, "m", offset)

    def test_what_is_no_call_of_a_def_item(self):
        text = ("import n: h\ndata D(x: Int)\ntrait T with go(s): Int\nimpl T for Int = s\n"
                "def f[U](a: Int, d: D) = loop v = D(1).x times go(a) do v + d.x + h()\n")
        program = {"m": text, "n": "def h() = 1\n"}
        for part in ("import", "n:", "h\n", "D(x", "x:", "T with", "go(s", "s)", "T for", "Int =", "s\n", "f[", "U]", "a:",
                     "D)", "v =", "D(1)", "x times", "go(a)", "a)", "v +", "d.x", "x + h", "()\n"):
            self.refused(("symbol", "m", at(text, part)), inline, program, "m", at(text, part))
        self.refused(("symbol", "m", len(text)), inline, program, "m", len(text))
        self.changed({**program, "m": text.replace("import n: h\n", "").replace("h()", "(1)")}, inline, program, "m",
                     at(text, "h()"))

    def test_unsafe_arguments_and_values(self):
        text = "def g(a: Int) = a / a\ndef f() = g(1 / 0)\n"
        self.changed("def g(a: Int) = a / a\ndef f() = (let a = 1 / 0 in a / a)\n", inline, {"m": text}, "m", at(text, "g(1"))

    def test_line_breaks_and_comments(self):
        text = "def g(a: Int) = a # a\n   + 1 # b\ndef f() = g( # c\n  1 # d\n   + 2 ) # e\n"
        expected = "def g(a: Int) = a # a\n   + 1 # b\ndef f() = (let a = 1 # d\n   + 2 in a # a\n   + 1) # e\n"
        self.changed(expected, inline, {"m": text}, "m", at(text, "g( #"))

    def test_bodies_with_lets(self):
        text = "def g(a: Int) = let b = a in loop c = b times b do c + a\ndef f(b: Int) = g(let c = b in c)\n"
        value = text[at(text, "let b"):at(text, "\n")]
        expected = text.replace("g(let c = b in c)", "(let a = let c = b in c in " + value + ")")
        self.changed(expected, inline, {"m": text}, "m", at(text, "g(let"))

    def test_impls(self):
        text = "def g(a: Int) = a\ntrait T with go(s): Int\nimpl T for Int = g(s)\n"
        self.changed(text.replace("g(s)", "(let a = s in a)"), inline, {"m": text}, "m", at(text, "g(s)"))

    def test_a_def_item_of_another_module(self):
        program = {"m": "import n: g, h\nimport o: k\ndef f() = g(1) + h(2)\n# note\n",
                   "n": "import o: two, D\ndef g(x: Int) = two() + h(D(x).y)\ndef h(a: Int) = a\n",
                   "o": "def two() = 2\ndata D(y: Int)\ndef k() = 1\n"}
        expected = "import n: h\nimport o: D, two\ndef f() = (let x = 1 in two() + h(D(x).y)) + h(2)\n# note\n"
        self.changed({**program, "m": expected}, inline, program, "m", at(program["m"], "g(1)"))
        expected = "import n: g\ndef f() = g(1) + (let a = 2 in a)\n# note\n"
        self.changed({**program, "m": expected}, inline, program, "m", at(program["m"], "h(2)"))
        # In the same module the imports stay as they are.
        program["o"] = "import n: g\nimport n: h\ndef two() = 2\ndata D(y: Int)\ndef k() = two()\n"
        self.changed({**program, "o": program["o"].replace("= two()", "= (2)")}, inline, program, "o",
                     at(program["o"], "two()", 1))

    def test_a_field_that_captures(self):
        text = "def g(a: Int, b: Int) = a - b\ndef f(a: Int) = g(1, a)\n"
        new = "def g(a: Int, b: Int) = a - b\ndef f(a: Int) = (let a = 1 in let b = a in a - b)\n"
        self.refused(("clash", "m", at(new, "a in a - b")), inline, {"m": text}, "m", at(text, "g(1"))
        text = "def g(a: Int, b: Int) = a - b\ndef f(a: Int) = g(a, 1)\n"
        self.changed(text.replace("g(a, 1)", "(let a = a in let b = 1 in a - b)"), inline, {"m": text}, "m", at(text, "g(a, 1"))
        # An item that is called in an argument.
        text = "def h() = 1\ndef g(h: Int, b: Int) = h - b\ndef f() = g(1, h())\n"
        new = text.replace("g(1, h())", "(let h = 1 in let b = h() in h - b)")
        self.refused(("clash", "m", at(new, "h() in")), inline, {"m": text}, "m", at(text, "g(1"))

    def test_items_that_are_captured(self):
        text = "def h() = 1\ndef g() = h()\ndef f(h: Int) = g() + h\n"
        new = text.replace("g() + h", "(h()) + h")
        self.refused(("clash", "m", at(new, "(h())") + 1), inline, {"m": text}, "m", at(text, "g() + h"))

    def test_names_that_are_taken(self):
        program = {"m": "import n: g\ndef h() = 2\ndef f() = g()\n", "n": "def h() = 1\ndef g() = h()\n"}
        self.refused(("clash", "m", len("import n: h\ndef ")), inline, program, "m", at(program["m"], "g()"))
        program["m"] = "import n: g\ndef f() = g() + h()\ndef h() = 2\n"
        new = "import n: h\ndef f() = (h()) + h()\ndef h() = 2\n"
        # The second call means the other item then.
        self.refused(("clash", "m", at(new, "h()", 1)), inline, program, "m", at(program["m"], "g()"))

    def test_unsound_comes_first(self):
        self.refused(("unsound", "m", 0), inline, {"m": "f\n"}, "m", 0)

    def test_nested_too_deep(self):
        text = "def g() = " + "(" * 10 + "1" + ")" * 10 + "\ndef f() = " + "(" * 20 + "g()" + ")" * 20 + "\n"
        self.refused(("clash", "m", at(text, "f()")), inline, {"m": text}, "m", at(text, "g()", 1))

    def test_long(self):
        value = "12345678901234567890" * 90
        text = "def g() = " + value + "\ndef f() = g() + g()\n"
        once = inline({"m": text}, "m", at(text, "g() +"))
        self.assertEqual(once["m"], text.replace("g() +", "(" + value + ") +"))
        self.refused(("long", "m", 0), inline, once, "m", at(once["m"], "g()", 1))


if __name__ == "__main__":
    unittest.main()
