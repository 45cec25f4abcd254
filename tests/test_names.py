"""Points 14 to 21: what is declared, bound and meant, and the problems of names."""

import unittest

from samenames.names import locals_at, name_problems, occurrences
from samenames.scopes import declared, items, scope, sort_of
from tests.helpers import at, place, problem


class ScopesTest(unittest.TestCase):
    def test_items(self):
        program = {"m": " x\ndata D()\n# note\ndef f(\nimport n: a\n", "n": ""}
        self.assertEqual(items(program, "m"), [("data", ("D", 5), ()), ("blank",), ("broken",),
                                               ("import", ("n", 7), (("a", 10),))])
        self.assertEqual(items(program, "n"), [])

    def test_declared(self):
        text = "def f() = 1\n\ndata D(x: Int)\ntrait T with m(a): Int\nimport n: q\nimpl T for D = 1\n# f\n"
        self.assertEqual(declared({"m": text}, "m"), [("f", "def", 0, 4), ("D", "data", 1, 5), ("T", "trait", 2, 6),
                                                      ("m", "method", 2, 13)])

    def test_doubled_names(self):
        program = {"m": "def f() = 1\ndata f()\ndef f() = 2\ntrait g with f(a): Int\ndata g()\ndef h() = 1\n"}
        # The trait is void, but its first mark holds its name.
        self.assertEqual(declared(program, "m"), [("f", "def", 0, 4), ("h", "def", 5, 4)])
        self.assertEqual(declared({"m": "trait T with T(a): Int\ndef T() = 1\n"}, "m"), [])
        self.assertEqual(declared({"m": "import n: f\ndef f() = 1\n", "n": "def f() = 1\n"}, "m"), [])

    def test_scope(self):
        program = {"m": "import n: f, g, T\nimport m: g\nimport o: h\ndef k() = 1\n",
                   "n": "def f() = 1\nimport o: g\ntrait T with t(a): Int\n", "p": "def h() = 1\n"}
        self.assertEqual(scope(program, "m"), {"f": ("item", "n", "f"), "T": ("item", "n", "T"),
                                               "k": ("item", "m", "k")})

    def test_unknown_names_of_imports_hold_their_names(self):
        program = {"m": "import n: f, D\nimport o: g\ndef f() = 1\ndef g() = 1\ndata D()\n", "n": "def h() = 1\n"}
        self.assertEqual(scope(program, "m"), {})
        self.assertEqual(declared(program, "m"), [])
        text = program["m"]
        start = at(text, "def f")
        self.assertEqual(name_problems(program, "m", 2), [(4, 5, "double")])
        self.assertEqual(name_problems(program, "m", 0), [problem(text, "f", "unknown"), problem(text, "D", "unknown")])
        self.assertEqual(text[start:start + 5], "def f")

    def test_the_first_of_two_imports(self):
        program = {"m": "import n: f\nimport o: f, g\n", "n": "def f() = 1\n", "o": "def f() = 2\ndef g() = 3\n"}
        self.assertEqual(scope(program, "m"), {"f": ("item", "n", "f"), "g": ("item", "o", "g")})
        self.assertEqual(name_problems(program, "m", 1), [(10, 11, "double")])
        self.assertEqual(name_problems({"m": "import n: f, f\n", "n": "def f() = 1\n"}, "m", 0), [(13, 14, "double")])

    def test_sort_of(self):
        program = {"m": "def f() = 1\ndata D(x: Int)\ntrait T with m(a): Int\nimport n: g\n", "n": "def g() = 1\n"}
        for name, sort in (("f", "def"), ("D", "data"), ("T", "trait"), ("m", "method"), ("g", ""), ("x", "")):
            self.assertEqual(sort_of(program, ("item", "m", name)), sort)
        for symbol in (("item", "o", "f"), ("builtin", "Int"), ("module", "m"), ("local", "m", 0, 4),
                       ("field", "m", "D", "x"), ()):
            self.assertEqual(sort_of(program, symbol), "")

    def test_what_is_returned_is_new(self):
        program = {"m": "def f() = 1\n"}
        for function in (items, declared, scope):
            function(program, "m").clear()
            self.assertEqual(len(function(program, "m")), 1)
        self.assertEqual(program, {"m": "def f() = 1\n"})


class OccurrencesTest(unittest.TestCase):
    def rows(self, program, module, chunk):
        start = 0
        text = program[module]
        for _ in range(chunk):
            start = text.index("\n", start) + 1
        return [(text[start + first:start + end], symbol, declares)
                for first, end, symbol, declares in occurrences(program, module, chunk)]

    def test_import(self):
        program = {"m": "import n: f, g, f\nimport o: f\nimport m: k\ndef k() = 1\n", "n": "def f() = 1\n"}
        self.assertEqual(self.rows(program, "m", 0), [("n", ("module", "n"), False), ("f", ("item", "n", "f"), False)])
        self.assertEqual(self.rows(program, "m", 1), [])
        self.assertEqual(self.rows(program, "m", 2), [("m", ("module", "m"), False)])
        text = program["m"]
        self.assertEqual(name_problems(program, "m", 0), [problem(text, "g", "unknown"), (16, 17, "double")])
        self.assertEqual(name_problems(program, "m", 1), [(7, 8, "unknown"), (10, 11, "double")])
        # The module itself is no other module; its names are not told, but hold.
        self.assertEqual(name_problems(program, "m", 2), [(7, 8, "unknown")])
        self.assertEqual(name_problems(program, "m", 3), [(4, 5, "double")])

    def test_data(self):
        program = {"m": "data D(x: Int, y: D, x: Bool)\n"}
        self.assertEqual(self.rows(program, "m", 0),
                         [("D", ("item", "m", "D"), True), ("x", ("field", "m", "D", "x"), True),
                          ("Int", ("builtin", "Int"), False), ("y", ("field", "m", "D", "y"), True),
                          ("D", ("item", "m", "D"), False), ("Bool", ("builtin", "Bool"), False)])
        self.assertEqual(name_problems(program, "m", 0), [(21, 22, "double")])

    def test_trait(self):
        program = {"m": "trait T with m(s, a: Int, s: E): Int\n"}
        self.assertEqual(self.rows(program, "m", 0),
                         [("T", ("item", "m", "T"), True), ("m", ("item", "m", "m"), True),
                          ("s", ("local", "m", 0, 15), True), ("a", ("local", "m", 0, 18), True),
                          ("Int", ("builtin", "Int"), False), ("Int", ("builtin", "Int"), False)])
        self.assertEqual(name_problems(program, "m", 0), [(26, 27, "double"), (29, 30, "unknown")])

    def test_impl(self):
        program = {"m": "import n: T, D\nimpl T for D = s + by + x\n",
                   "n": "def f() = 1\ntrait T with m(s, by: Int): Int\ndata D()\n"}
        self.assertEqual(self.rows(program, "m", 1),
                         [("T", ("item", "n", "T"), False), ("D", ("item", "n", "D"), False),
                          ("s", ("local", "n", 1, 15), False), ("by", ("local", "n", 1, 18), False)])
        self.assertEqual(name_problems(program, "m", 1), [(24, 25, "unknown")])

    def test_impl_without_a_trait(self):
        program = {"m": "def g() = 1\nimpl g for Int = s\nimpl X for Bool = let s = 1 in s\n"}
        self.assertEqual(name_problems(program, "m", 1), [(5, 6, "sort"), (17, 18, "unknown")])
        self.assertEqual(name_problems(program, "m", 2), [(5, 6, "unknown")])
        self.assertEqual(self.rows(program, "m", 2), [("Bool", ("builtin", "Bool"), False),
                                                      ("s", ("local", "m", 2, 22), True),
                                                      ("s", ("local", "m", 2, 22), False)])

    def test_def(self):
        program = {"m": "def f[U, V: T](a: U, b: Int): V = a + f(b, c)\ntrait T with m(s): Int\n"}
        self.assertEqual(self.rows(program, "m", 0),
                         [("f", ("item", "m", "f"), True), ("U", ("local", "m", 0, 6), True),
                          ("V", ("local", "m", 0, 9), True), ("T", ("item", "m", "T"), False),
                          ("a", ("local", "m", 0, 15), True), ("U", ("local", "m", 0, 6), False),
                          ("b", ("local", "m", 0, 21), True), ("Int", ("builtin", "Int"), False),
                          ("V", ("local", "m", 0, 9), False), ("a", ("local", "m", 0, 15), False),
                          ("f", ("item", "m", "f"), False), ("b", ("local", "m", 0, 21), False)])
        self.assertEqual(name_problems(program, "m", 0), [(43, 44, "unknown")])

    def test_doubled_bounds_and_fields(self):
        program = {"m": "def f[U, U](a: U, a: Int, U: Int) = a + U\n"}
        self.assertEqual([row for row in self.rows(program, "m", 0) if row[0] in "Ua"],
                         [("U", ("local", "m", 0, 6), True), ("a", ("local", "m", 0, 12), True),
                          ("U", ("local", "m", 0, 6), False), ("U", ("local", "m", 0, 26), True),
                          ("a", ("local", "m", 0, 12), False), ("U", ("local", "m", 0, 26), False)])
        self.assertEqual(name_problems(program, "m", 0), [(9, 10, "double"), (18, 19, "double")])

    def test_variables(self):
        text = "def f(x: Int) = let x = x in loop y = x times y do let x = y in x + y\n"
        program = {"m": text, "y": ""}
        rows = [(start, symbol[3]) for start, _, symbol, declares in occurrences(program, "m", 0)
                if symbol[0] == "local" and not declares]
        parameter, outer, inner = 6, at(text, "let x") + 4, at(text, "let x", 1) + 4
        variable = at(text, "loop y") + 5
        self.assertEqual(rows, [(at(text, "x in"), parameter), (at(text, "x times"), outer),
                                (at(text, "y in"), variable), (at(text, "x + y"), inner),
                                (at(text, "x + y") + 4, variable)])
        # The variable of a loop is not known in its count.
        self.assertEqual(name_problems(program, "m", 0), [problem(text, "y do"[:1], "unknown", 1)])
        self.assertEqual(at(text, "times y") + 6, place(text, "y", 1)[0])
        self.assertEqual(inner, at(text, "x = y"))

    def test_scope_behind_locals(self):
        program = {"m": "def f(g: Int) = g()\ndef g() = let f = 1 in f + h()\ndef h() = g\n"}
        self.assertEqual(name_problems(program, "m", 0), [(16, 17, "sort")])
        self.assertEqual(self.rows(program, "m", 0)[-1], ("g", ("local", "m", 0, 6), False))
        self.assertEqual(name_problems(program, "m", 1), [])
        self.assertEqual(name_problems(program, "m", 2), [(10, 11, "sort")])

    def test_fields_are_left_out(self):
        program = {"m": "data D(x: Int)\ndef f(d: D) = d.x + d.y\n"}
        self.assertEqual([row[0] for row in self.rows(program, "m", 1)], ["f", "d", "D", "d", "d"])
        self.assertEqual(name_problems(program, "m", 1), [])

    def test_blank_broken_and_void(self):
        program = {"m": "# f\ndef f(\ndef f() = 1\ndef f(a: X, a: Int) = zz\ntrait f with q(a): Int\n"}
        for chunk in (0, 1, 3, 4):
            self.assertEqual(occurrences(program, "m", chunk), [])
        self.assertEqual(name_problems(program, "m", 0), [])
        self.assertEqual(name_problems(program, "m", 1), [(6, 6, "syntax")])
        self.assertEqual(name_problems(program, "m", 2), [])
        self.assertEqual(name_problems(program, "m", 3), [(4, 5, "double")])
        self.assertEqual(name_problems(program, "m", 4), [(6, 7, "double")])

    def test_both_marks_of_a_trait(self):
        program = {"m": "data T()\ntrait T with T(a, a: X): Y\n"}
        self.assertEqual(name_problems(program, "m", 1), [(6, 7, "double"), (13, 14, "double")])


class SortsTest(unittest.TestCase):
    """What each name may mean, and what not."""

    program = {"m": "import n: D, T, m, f\n", "n": "data D(x: Int)\ntrait T with m(s): Int\ndef f() = 1\n"}

    def check(self, row, part, *wrong):
        """The name `part` in the row gives "sort" for these, and no problem for the others."""
        for name in ("D", "T", "m", "f", "Int", "Bool", "U", "v", "zz"):
            text = row.replace("NAME", name)
            program = {**self.program, "m": self.program["m"] + text + "\n"}
            start = row.index("NAME")
            found = [code for first, _, code in name_problems(program, "m", 1) if first == start]
            expected = []
            if name in wrong:
                expected = ["sort"]
            elif name not in part:
                expected = ["unknown"]
            self.assertEqual(found, expected, text)

    def test_traits(self):
        self.check("def q[U: NAME](v: Int) = 1", ("T",), "D", "m", "f")
        self.check("impl NAME for Int = 1", ("T",), "D", "m", "f")

    def test_targets(self):
        self.check("impl T for NAME = 1", ("D", "Int", "Bool"), "T", "m", "f")

    def test_kinds(self):
        self.check("def q[U](v: NAME) = 1", ("D", "Int", "Bool", "U"), "T", "m", "f")
        self.check("def q[U](v: Int): NAME = 1", ("D", "Int", "Bool", "U"), "T", "m", "f")
        self.check("data Q(v: NAME)", ("D", "Int", "Bool"), "T", "m", "f")
        self.check("trait Q with q(v, a: NAME): Int", ("D", "Int", "Bool"), "T", "m", "f")
        self.check("trait Q with q(v, a: Int): NAME", ("D", "Int", "Bool"), "T", "m", "f")

    def test_values(self):
        self.check("def q[U](v: Int) = 1 + NAME", ("v",), "D", "T", "m", "f")
        self.check("def q[U](v: Int) = 1 + NAME()", ("D", "m", "f"), "T", "v")

    def test_declared_names_come_before_built_in_kinds(self):
        program = {"m": "trait Int with Bool(s): Int\ndef f(a: Bool) = 1\n"}
        self.assertEqual(name_problems(program, "m", 0), [(24, 27, "sort")])
        self.assertEqual(name_problems(program, "m", 1), [(9, 13, "sort")])
        program = {"m": "data Int(x: Int)\ndef f[Bool](a: Bool) = 1\n"}
        self.assertEqual(occurrences(program, "m", 0)[2], (12, 15, ("item", "m", "Int"), False))
        self.assertEqual(occurrences(program, "m", 1)[3], (15, 19, ("local", "m", 1, 6), False))

    def test_bounds_come_before_the_scope(self):
        program = {"m": "data D()\ndef f[D](a: D): D = D()\ntrait T with m(s): Int\ndef g[T: T](a: T) = 1\n"}
        rows = occurrences(program, "m", 1)
        self.assertEqual([row[2] for row in rows[3:]], [("local", "m", 1, 6)] * 2 + [("item", "m", "D")])
        # The name of a trait is not looked for among the bounds.
        self.assertEqual([row[2] for row in occurrences(program, "m", 3)],
                         [("item", "m", "g"), ("local", "m", 3, 6), ("item", "m", "T"), ("local", "m", 3, 12),
                          ("local", "m", 3, 6)])


class LocalsTest(unittest.TestCase):
    def test_parameters_and_variables(self):
        text = "def f[U](a: U, b: Int) = let x = a in (loop b = x times 1 do b + 2)\n"
        program = {"m": text}
        a, b = ("local", "m", 0, 9), ("local", "m", 0, 15)
        x, inner = ("local", "m", 0, at(text, "x =")), ("local", "m", 0, at(text, "b = x"))
        for offset in range(at(text, "let")):
            self.assertEqual(locals_at(program, "m", 0, offset), {})
        self.assertEqual(locals_at(program, "m", 0, at(text, "let")), {"a": a, "b": b})
        self.assertEqual(locals_at(program, "m", 0, at(text, "a in")), {"a": a, "b": b})
        self.assertEqual(locals_at(program, "m", 0, at(text, "a in") + 1), {"a": a, "b": b})
        # Between the value and the body only the let is around the offset.
        self.assertEqual(locals_at(program, "m", 0, at(text, "in (") + 1), {"a": a, "b": b})
        self.assertEqual(locals_at(program, "m", 0, at(text, "(loop")), {"a": a, "b": b, "x": x})
        self.assertEqual(locals_at(program, "m", 0, at(text, "x times")), {"a": a, "b": b, "x": x})
        self.assertEqual(locals_at(program, "m", 0, at(text, "b + 2")), {"a": a, "b": inner, "x": x})
        self.assertEqual(locals_at(program, "m", 0, at(text, ")\n")), {"a": a, "b": inner, "x": x})
        self.assertEqual(locals_at(program, "m", 0, at(text, ")\n") + 1), {"a": a, "b": b, "x": x})
        self.assertEqual(locals_at(program, "m", 0, len(text)), {})

    def test_impls(self):
        program = {"m": "import n: T\nimpl T for Int = s\nimpl Q for Int = s\n", "n": "trait T with m(s, by: Int): Int\n"}
        self.assertEqual(locals_at(program, "m", 1, 17), {"s": ("local", "n", 0, 15), "by": ("local", "n", 0, 18)})
        self.assertEqual(locals_at(program, "m", 2, 17), {})

    def test_chunks_without_a_value(self):
        program = {"m": "data D(x: Int)\nimport n: f\n# a\ndef f(\ntrait T with m(s): Int\n", "n": ""}
        for chunk in range(5):
            for offset in range(12):
                self.assertEqual(locals_at(program, "m", chunk, offset), {})

    def test_void_items(self):
        program = {"m": "data P()\ndef P(a: Int, b: Bool) = not False\n"}
        for offset in range(40):
            self.assertEqual(locals_at(program, "m", 1, offset), {})
        # The mark that holds the name may be that of an import, also of one that binds nothing, of a data, trait or def
        # item, of a method, or of an item that is void itself.
        void = "def f(a: Int) = let x = a in x\n"
        for head in ("import n: f\n", "import n: g, f\n", "import zz: f\n", "import m: f\n", "data f()\n",
                     "trait f with q(s): Int\n", "trait T with f(s): Int\n", "def f() = 1\n",
                     "data T()\ntrait T with f(s): Int\n"):
            program = {"m": head + void, "n": "def f() = 1\n"}
            for offset in range(len(void) + 1):
                self.assertEqual(locals_at(program, "m", head.count("\n"), offset), {}, head)
        # What introduces another name, or none, makes nothing void.
        for head in ("import f: g\n", "import n: g\n", "data g(f: Int)\n", "# f\n", "def f(\n", "from n import f\n",
                     "impl f for f = f\n"):
            program = {"m": head + void, "n": "def f() = 1\n"}
            self.assertEqual(locals_at(program, "m", 1, 16), {"a": ("local", "m", 1, 6)}, head)

    def test_the_item_that_holds_the_name_keeps_its_locals(self):
        program = {"m": "def P(a: Int, b: Bool) = not False\ndef P(c: Int) = c\ndata P()\n"}
        self.assertEqual(locals_at(program, "m", 0, 25), {"a": ("local", "m", 0, 6), "b": ("local", "m", 0, 14)})
        self.assertEqual(locals_at(program, "m", 1, 16), {})

    def test_impls_are_never_void(self):
        program = {"m": "trait T with m(s): Int\nimpl T for Int = 1\nimpl T for Int = s\nimpl T for X = s\n"}
        for chunk in (1, 2, 3):
            self.assertEqual(locals_at(program, "m", chunk, 17 if chunk < 3 else 15), {"s": ("local", "m", 0, 15)})

    def test_doubled_parameters(self):
        program = {"m": "def f(a: Int, a: Bool) = 1\n"}
        self.assertEqual(locals_at(program, "m", 0, 25), {"a": ("local", "m", 0, 6)})

    def test_the_dict_is_new(self):
        program = {"m": "def f(a: Int) = 1\n"}
        locals_at(program, "m", 0, 16).clear()
        self.assertEqual(len(locals_at(program, "m", 0, 16)), 1)


if __name__ == "__main__":
    unittest.main()
