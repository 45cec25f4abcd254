"""Point 56: making a def item of a value."""

from samenames.changes import extract
from tests.helpers import at, place
from tests.refusals import ChangeTest

HEAD = "data D(x: Int)\ntrait T with go(s): Int\nimpl T for Int = s\n"


class ExtractTest(ChangeTest):
    def gives(self, text, part, call, added, name="q", number=0, **others):
        """The part of the text becomes the call, and the item is added at the end."""
        start, end = place(text, part, number)
        expected = text[:start] + call + text[end:] + added
        self.changed({**others, "m": expected}, extract, {**others, "m": text}, "m", start, end, name)

    def test_without_locals(self):
        self.gives("def f() = 1 + 2 * 3\n", "2 * 3", "q()", "def q(): Int = 2 * 3\n")
        self.gives("def f() = 1 < 2\n", "1 < 2", "long_name1()", "def long_name1(): Bool = 1 < 2\n", "long_name1")

    def test_behind_a_newline(self):
        self.gives("def f() = 1", "1", "q()", "\ndef q(): Int = 1\n")
        self.gives("def f() = 1 # note", "1", "q()", "\ndef q(): Int = 1\n")
        self.gives("def f() = 1\n\n", "1", "q()", "def q(): Int = 1\n")
        self.gives("def f() = 1\n  ", "1", "q()", "\ndef q(): Int = 1\n")

    def test_each_form_of_tree(self):
        text = HEAD + ("def f(a: Int, d: D) = let v = (a) in if not v < 3 then -v else "
                       "loop w = d.x times go(v) do w + D(w).x\n")
        loop = "loop w = d.x times go(v) do w + D(w).x"
        choice = "if not v < 3 then -v else " + loop
        for part, call, item in (
                ("(a)", "q(a)", "q(a: Int): Int"), ("not v < 3", "q(v)", "q(v: Int): Bool"),
                ("v < 3", "q(v)", "q(v: Int): Bool"), ("-v", "q(v)", "q(v: Int): Int"), ("d.x", "q(d)", "q(d: D): Int"),
                ("go(v)", "q(v)", "q(v: Int): Int"), ("w + D(w).x", "q(w)", "q(w: Int): Int"),
                ("D(w)", "q(w)", "q(w: Int): D"), ("D(w).x", "q(w)", "q(w: Int): Int"), ("3", "q()", "q(): Int"),
                (loop, "q(d, v)", "q(d: D, v: Int): Int"), (choice, "q(v, d)", "q(v: Int, d: D): Int"),
                ("let v = (a) in " + choice, "q(a, d)", "q(a: Int, d: D): Int")):
            self.gives(text, part, call, "def " + item + " = " + part + "\n")
        self.gives("def f() = not True\n", "True", "q()", "def q(): Bool = True\n")
        self.gives("def f(abc: Bool) = abc\n", "abc", "q(abc)", "def q(abc: Bool): Bool = abc\n", number=1)

    def test_free_locals_in_the_order_of_their_first_occurrence(self):
        text = "def f(a: Int, b: Bool, c: Int, d: Int) = if b then c + a * c - d else a\n"
        self.gives(text, "c + a * c - d", "q(c, a, d)", "def q(c: Int, a: Int, d: Int): Int = c + a * c - d\n")
        self.gives(text, "c + a * c", "q(c, a)", "def q(c: Int, a: Int): Int = c + a * c\n")
        self.gives(text, text[at(text, "if"):-1], "q(b, c, a, d)",
                   "def q(b: Bool, c: Int, a: Int, d: Int): Int = if b then c + a * c - d else a\n")

    def test_locals_that_are_declared_inside(self):
        text = "def f(x: Int) = (let x = x + 1 in loop x = x times x do x) + x\n"
        inner = "let x = x + 1 in loop x = x times x do x"
        self.gives(text, inner, "q(x)", "def q(x: Int): Int = " + inner + "\n")
        self.gives(text, "loop x = x times x do x", "q(x)", "def q(x: Int): Int = loop x = x times x do x\n")
        text = "def f(a: Int) = let y = a in (let z = y in z) + y\n"
        self.gives(text, "(let z = y in z)", "q(y)", "def q(y: Int): Int = (let z = y in z)\n")
        self.gives(text, "(let z = y in z) + y", "q(y)", "def q(y: Int): Int = (let z = y in z) + y\n")

    def test_line_breaks_and_comments(self):
        part = "a # one\n  + # two\n  2"
        self.gives("def f(a: Int) = (" + part + ") # three\n", part, "q(a)", "def q(a: Int): Int = " + part + "\n")

    def test_impls(self):
        self.gives("trait T with m(self, by: Int): Int\ndata D(x: Int)\nimpl T for D = self.x + by\n", "self.x + by",
                   "q(self, by)", "def q(self: D, by: Int): Int = self.x + by\n")
        self.gives("import n: T\nimpl T for Bool = if self then by else 2\n", "if self then by else 2", "q(self, by)",
                   "def q(self: Bool, by: Int): Int = if self then by else 2\n", n="trait T with m(self, by: Int): Int\n")

    def test_bounds(self):
        head = HEAD + "trait R with ro(s): Int\n"
        text = head + "def f[A, B: T, C: R](a: A, b: B, c: C, n: Int) = if a == a then go(b) + ro(c) else ro(c) + n\n"
        self.gives(text, "a == a", "q(a)", "def q[A](a: A): Bool = a == a\n")
        self.gives(text, "go(b)", "q(b)", "def q[B: T](b: B): Int = go(b)\n")
        self.gives(text, "go(b) + ro(c)", "q(b, c)", "def q[B: T, C: R](b: B, c: C): Int = go(b) + ro(c)\n")
        self.gives(text, "ro(c) + n", "q(c, n)", "def q[C: R](c: C, n: Int): Int = ro(c) + n\n")
        whole = "if a == a then go(b) + ro(c) else ro(c) + n"
        self.gives(text, whole, "q(a, b, c, n)",
                   "def q[A, B: T, C: R](a: A, b: B, c: C, n: Int): Int = " + whole + "\n")
        # The order of the item counts, not that of the locals.
        text = head + "def f[A, B: T](a: A, b: B, n: Int) = n + (if 1 < go(b) then (if a == a then 1 else 2) else 3)\n"
        part = "if 1 < go(b) then (if a == a then 1 else 2) else 3"
        self.gives(text, part, "q(b, a)", "def q[A, B: T](b: B, a: A): Int = " + part + "\n")

    def test_a_bound_as_the_kind_of_the_tree(self):
        text = "def id[U](u: U) = u\ndef f[V](a: V, b: V) = if 1 < 2 then id(a) else b\n"
        self.gives(text, "id(a)", "q(a)", "def q[V](a: V): V = id(a)\n")
        start = at(text, "b\n")
        expected = text[:start] + "q(b)\n" + "def q[V](b: V): V = b\n"
        self.changed({"m": expected}, extract, {"m": text}, "m", start, start + 1, "q")

    def test_a_trait_of_another_module(self):
        program = {"n": "trait T with go(s): Int\n"}
        self.gives("import n: T, go\ndef f[U: T](u: U) = 1 + go(u)\n", "go(u)", "q(u)",
                   "def q[U: T](u: U): Int = go(u)\n", **program)

    def test_a_name_that_looks_like_a_local(self):
        self.gives("def f(q: Int) = q + 1\n", "q + 1", "q2(q)", "def q2(q: Int): Int = q + 1\n", "q2")

    def test_no_tree_at_the_place(self):
        text = "import n: one\ndata D(x: Int)\ndef f(a: Int) = a + one() * (2)\n"
        program = {"m": text, "n": "def one() = 1\n"}
        value = at(text, "a + one")
        places = [(value + first, value + behind) for first in range(15) for behind in range(first, 15)]
        good = [place(text, part) for part in ("a + one() * (2)", "one() * (2)", "one()", "(2)", "2")] + [(value, value + 1)]
        good.append((at(text, "one()"), at(text, "one()") + 5))
        for start, end in places:
            if (start, end) in good:
                self.assertEqual(set(extract(program, "m", start, end, "q")), {"m", "n"})
            else:
                self.refused(("place", "m", start), extract, program, "m", start, end, "q")
        for part in ("one\n", "D(x: Int)", "x", "Int", "a: Int", "f(a: Int)"):
            start, end = place(text, part)
            self.refused(("place", "m", start), extract, program, "m", start, end, "1")
        self.refused(("place", "m", len(text)), extract, program, "m", len(text), len(text), "q")
        self.refused(("place", "m", 5), extract, program, "m", 5, 3, "q")

    def test_no_name(self):
        text = "def f() = 1\n"
        for name in ("", "1", "let", "a b", "a ", "_"):
            self.refused(("name", "m", 10), extract, {"m": text}, "m", 10, 11, name)

    def test_kinds_that_the_module_does_not_bind(self):
        program = {"n": "data D(x: Int)\ndata E(d: D)\ndef get() = D(1)\ndef use(d: D) = d.x\n"}
        program["m"] = "import n: get, use, E\ndef f(e: E) = use(get()) + e.d.x\n"
        text = program["m"]
        for part in ("get()", "e.d"):
            start, end = place(text, part)
            self.refused(("kind", "m", start), extract, program, "m", start, end, "q")
            self.refused(("name", "m", start), extract, program, "m", start, end, "2")
        self.gives(text, "e.d.x", "q(e)", "def q(e: E): Int = e.d.x\n", n=program["n"])
        self.gives(text, "use(get())", "q()", "def q(): Int = use(get())\n", n=program["n"])
        # The kind of a free local counts, too.
        text = "import n: get, use\ndef f() = let v = get() in use(v)\n"
        start, end = place(text, "use(v)")
        self.refused(("kind", "m", start), extract, {**program, "m": text}, "m", start, end, "q")
        # The name of another item is not enough.
        text = "import n: get, use\ndata D(x: Int)\ndef f() = let v = get() in use(v)\n"
        start, end = place(text, "use(v)")
        self.refused(("kind", "m", start), extract, {**program, "m": text}, "m", start, end, "q")
        text = "import n: get, use, D\ndef f() = let v = get() in use(v)\n"
        self.gives(text, "use(v)", "q(v)", "def q(v: D): Int = use(v)\n", n=program["n"])

    def test_the_order_of_the_codes(self):
        program = {"m": "def f() = 1\n", "n": "def"}
        self.refused(("unsound", "n", 3), extract, program, "m", 0, 1, "1")
        self.refused(("place", "m", 0), extract, {"m": program["m"]}, "m", 0, 1, "1")

    def test_a_name_that_is_taken(self):
        text = "def g() = 2\ndef f() = 1\n"
        start, end = place(text, "1")
        self.refused(("clash", "m", at(text, "f()") + len("f() = g()\ndef ")), extract, {"m": text}, "m", start, end, "g")
        # The symbol of the new item is that of no import.
        text = "import n: g\ndef f() = 1 + 2\n"
        start, end = place(text, "1")
        self.refused(("clash", "m", start), extract, {"m": text, "n": "def g() = 2\n"}, "m", start, end, "g")
        text = "def f(q: Int) = 1 + q\n"
        start, end = place(text, "1 + q")
        self.refused(("clash", "m", start), extract, {"m": text}, "m", start, end, "q")
        self.changed({"m": "def f(q: Int) = r(q)\ndef r(q: Int): Int = 1 + q\n"}, extract, {"m": text}, "m", start, end, "r")

    def test_names_that_grow_together(self):
        text = "def f(b: Bool) = if(b)then(1)else(2)\n"
        for part in ("(b)", "(1)", "(2)"):
            # The item cannot be read any more, so that none of its names means anything.
            start, end = place(text, part)
            self.refused(("clash", "m", 4), extract, {"m": text}, "m", start, end, "q")
        text = "def f(b: Bool) = if (b) then (1) else (2)\n"
        self.gives(text, "(b)", "q(b)", "def q(b: Bool): Bool = (b)\n")
        text = "def f(b: Bool) = 1+(2)\n"
        self.gives(text, "(2)", "q()", "def q(): Int = (2)\n")

    def test_names_that_mean_something_else_in_the_new_item(self):
        text = "def g() = 1\ndef f(a: Int) = let g = a in g + 1\n"
        self.gives(text, "g + 1", "q(g)", "def q(g: Int): Int = g + 1\n")
        # The built-in kind is another one in the module.
        program = {"m": "import n: one\ndata Int()\ndef f() = one() + 2\n", "n": "def one() = 1\n"}
        start, end = place(program["m"], "one() + 2")
        after = program["m"].replace("one() + 2", "q()")
        self.refused(("clash", "m", len(after) + len("def q(): ")), extract, program, "m", start, end, "q")

    def test_long(self):
        text = "def f() = 1\n"
        added = len("q()") - 1 + len("def q(): Int = 1\n")
        for rest, fits in ((0, True), (1, False)):
            program = {"m": text + "#" * (4000 - added - len(text) - 1 + rest) + "\n", "n": ""}
            if fits:
                self.assertEqual(len(extract(program, "m", 10, 11, "q")["m"]), 4000)
            else:
                self.refused(("long", "m", 0), extract, program, "m", 10, 11, "q")


if __name__ == "__main__":
    import unittest
    unittest.main()
