"""Points 22 to 30 and 32: kinds."""

import unittest

from samenames.chunks import chunks
from samenames.infer import cyclic, impls, judged, result_kind, written
from tests.helpers import at, problem

INT, BOOL, UNKNOWN = ("Int",), ("Bool",), ("unknown",)
TRAIT = "trait T with m(s, by: Int): Bool\n"


def one(text):
    return {"m": text}


class JudgedTest(unittest.TestCase):
    def problems(self, text, chunk=None, program=None):
        """The problems of the last chunk, or of the one with this number, with places in the text."""
        places = chunks(text)
        chunk = len(places) - 1 if chunk is None else chunk
        found = judged({**(program or {}), "m": text}, "m", chunk)[2]
        return [(places[chunk][0] + start, places[chunk][0] + end, code) for start, end, code in found]

    def check(self, text, *expected):
        self.assertEqual(self.problems(text), list(expected), text)

    def kinds(self, text, head="", program=None):
        """Pairs of the text of a tree and its kind, for the value of the last chunk."""
        whole = head + text
        places = chunks(whole)
        start, end = places[-1]
        chunk = whole[start:end]
        return [(chunk[first:behind], kind)
                for first, behind, kind in judged({**(program or {}), "m": whole}, "m", len(places) - 1)[0]]


class KindsTest(JudgedTest):
    def test_each_form(self):
        self.assertEqual(self.kinds("def f() = 1"), [("1", INT)])
        self.assertEqual(self.kinds("def f() = (True)"), [("(True)", BOOL), ("True", BOOL)])
        self.assertEqual(self.kinds("def f(a: Int) = a + 2 < - a"),
                         [("a + 2 < - a", BOOL), ("a + 2", INT), ("a", INT), ("2", INT), ("- a", INT), ("a", INT)])
        self.assertEqual(self.kinds("def f(a: Bool) = not a and a == a"),
                         [("not a and a == a", BOOL), ("not a", BOOL), ("a", BOOL), ("a == a", BOOL), ("a", BOOL),
                          ("a", BOOL)])
        self.assertEqual(self.kinds("def f() = let x = 1 in if x < 2 then True else False")[0],
                         ("let x = 1 in if x < 2 then True else False", BOOL))
        self.assertEqual(self.kinds("def f() = loop x = True times 3 do not x"),
                         [("loop x = True times 3 do not x", BOOL), ("True", BOOL), ("3", INT), ("not x", BOOL),
                          ("x", BOOL)])

    def test_data_and_fields(self):
        data = "data D(x: Int, y: E)\ndata E(z: Bool)\n"
        d, e = ("data", "m", "D"), ("data", "m", "E")
        self.assertEqual(self.kinds("def f() = D(1, E(True)).y.z", data),
                         [("D(1, E(True)).y.z", BOOL), ("D(1, E(True)).y", e), ("D(1, E(True))", d), ("1", INT),
                          ("E(True)", e), ("True", BOOL)])
        text = data + "def f(d: D) = d.y.z == d.y.q or d.x"
        found = judged(one(text), "m", 2)
        self.assertEqual(found[1], [(16, 17, ("field", "m", "D", "y"), False), (18, 19, ("field", "m", "E", "z"), False),
                                    (25, 26, ("field", "m", "D", "y"), False), (34, 35, ("field", "m", "D", "x"), False)])
        self.assertEqual(found[2], [(27, 28, "field"), (32, 35, "kind")])

    def test_fields_of_other_modules(self):
        program = {"n": "data D(x: Int, x: Bool)\n"}
        text = "import n: D\ndef f(d: D) = d . # x\n x"
        found = judged({**program, "m": text}, "m", 1)
        self.assertEqual(found[1], [(23, 24, ("field", "n", "D", "x"), False)])
        self.assertEqual(found[0], [(14, 24, INT), (14, 15, ("data", "n", "D"))])

    def test_unknown_names(self):
        self.assertEqual(self.kinds("def f(a: X) = zz + q(a, 1)"),
                         [("zz + q(a, 1)", INT), ("zz", UNKNOWN), ("q(a, 1)", UNKNOWN), ("a", UNKNOWN), ("1", INT)])
        self.check("def f(a: X) = if a then f + 1 else q(not 1)", (41, 42, "kind"))
        self.check("trait T with m(s): Int\ndef f(a: T, b: m): T = if a.x == m then b else a.y.z")

    def test_chunks_without_a_body(self):
        text = "import n: a\ndata D()\n# a\ndef f(\nimpl X for Int = 1 + True\ndata D()\ndef D() = 1 + True\n" + TRAIT
        for chunk in range(8):
            self.assertEqual(judged({"m": text, "n": ""}, "m", chunk), ([], [], []))

    def test_the_lists_are_new(self):
        for part in judged(one("data D(x: Int)\ndef f(d: D) = d.x + True"), "m", 1):
            part.clear()
        self.assertEqual([len(part) for part in judged(one("data D(x: Int)\ndef f(d: D) = d.x + True"), "m", 1)],
                         [4, 1, 1])

    def test_kinds_of_bounds(self):
        bound = ("bound", "m", 0, 6)
        self.assertEqual(self.kinds("def f[U, V](a: U, b: V) = if a == a then a else a")[3], ("a", bound))
        self.check("def f[U, V](a: U, b: V) = a == b", problem("def f[U, V](a: U, b: V) = a == b", "b", "kind", 1))
        self.check("def f[U](a: U) = a + 1", (17, 18, "kind"))
        self.check("def f[U](a: U) = a.x", (19, 20, "field"))

    def test_a_kind_that_is_known_later(self):
        head = "def id[U](a: U) = a\ntrait T with m(s): Int\nimpl T for Int = 1\ndef no[U](): U = no()\n"
        self.assertEqual(self.kinds("def f() = let x = no() in x + 1", head),
                         [("let x = no() in x + 1", INT), ("no()", INT), ("x + 1", INT), ("x", INT), ("1", INT)])
        self.assertEqual(self.kinds("def f() = let x = no() in id(x)", head),
                         [("let x = no() in id(x)", UNKNOWN), ("no()", UNKNOWN), ("id(x)", UNKNOWN), ("x", UNKNOWN)])


class EqualTest(JudgedTest):
    def test_signs(self):
        for sign in "+-*/<":
            text = "def f() = 1 " + sign + " (True)"
            self.check(text, problem(text, "(True)", "kind"))
            text = "def f() = True " + sign + " False"
            self.check(text, problem(text, "True", "kind"), problem(text, "False", "kind"))
        for sign in ("and", "or"):
            text = "def f() = 1 " + sign + " 2"
            self.check(text, problem(text, "1", "kind"), problem(text, "2", "kind"))
        self.check("def f() = 1 == True", (15, 19, "kind"))
        self.check("def f() = False == True")

    def test_not_and_minus(self):
        self.check("def f() = not - True", (16, 20, "kind"), (14, 20, "kind"))
        self.check("def f() = not not True")

    def check(self, text, *expected):
        super().check(text, *sorted(expected))

    def test_if(self):
        self.check("def f() = if 1 then 2 else True", (13, 14, "kind"), (27, 31, "kind"))
        # The kind is that of the second one.
        self.check("def f() = 1 + (if True then 2 else True)", (35, 39, "kind"))
        self.check("def f() = 1 + (if True then True else 2)", (14, 40, "kind"), (38, 39, "kind"))

    def test_let_and_loop(self):
        self.check("def f() = let x = True in x + (let x = 1 in x)", (26, 27, "kind"))
        self.check("def f() = loop x = 1 times True do x == 1", (27, 31, "kind"), (35, 41, "kind"))
        self.check("def f() = not (loop x = 1 times 2 do True)", (14, 42, "kind"), (37, 41, "kind"))

    def test_results(self):
        self.check("def f(): Bool = 1 + 1", (16, 21, "kind"))
        self.check("def f(): Bool = True")
        self.check("def f[U](a: U): U = 1", (20, 21, "kind"))
        self.check("data D()\ndef f(): D = g()\ndef g() = 1\ndef h(): Bool = g()", (54, 57, "kind"))
        text = TRAIT + "impl T for Int = s + by\n"
        self.check(text, problem(text, "s + by", "kind"))

    def test_parameters_of_impls(self):
        head = "data D(x: Int)\n" + TRAIT
        self.check(head + "impl T for D = s.x < by")
        self.check(head + "impl T for Bool = s and by", problem(head + "impl T for Bool = s and by", "by", "kind", 1))

    def test_arguments(self):
        head = "data D(x: Int, y: Bool)\ndef g(a: Int, b: D) = 1\n" + TRAIT + "impl T for D = True\nimpl T for Int = True\n"
        text = head + "def f() = g(True, 1) + g(1, D(True, 2))"
        self.check(text, problem(text, "True", "kind", 2), problem(text, "1", "kind", 1), problem(text, "True", "kind", 3),
                   problem(text, "2", "kind"))
        text = head + "def f() = m(1, True) and m(True, 1)"
        self.check(text, problem(text, "True", "kind", 2), (at(text, "m(True"), at(text, "m(True") + 1, "trait"))

    def test_bounds_are_made_equal(self):
        head = "def g[U](a: U, b: U): U = a\n"
        text = head + "def f() = g(1, True) + 1"
        self.check(text, problem(text, "True", "kind"))
        text = head + "def f() = g(True, False) + 1"
        self.check(text, problem(text, "g(True, False)", "kind"))

    def test_numbers_of_arguments(self):
        head = "data D(x: Int)\ndef g(a: Int) = 1\n" + TRAIT + "impl T for Int = True\n"
        for call in ("D()", "D(1, True)", "g()", "g(True, 1)", "m()", "m(1)", "m(1, 2, 3)"):
            text = head + "def f() = not " + call
            start = at(text, "not ") + 4
            self.check(text, (start, start + 1, "count"))
        self.check(head + "def f() = not (D(1) == D(2) and g(1) == 1 and m(1, 2))")
        # The arguments are looked at all the same.
        text = head + "def f() = g(1 + True, 2)"
        self.check(text, problem(text, "g", "count", 1), problem(text, "True", "kind", 1))

    def test_each_problem_once(self):
        text = "def f() = (1 and 2) == not (3 or 4)".replace("== not", "and not")
        self.assertEqual(len(self.problems(text)), 4)
        text = "def f() = if True + 1 < 2 then 1 else 2 + True"
        self.check(text, problem(text, "True", "kind"), problem(text, "True", "kind", 1))


class OpenTest(JudgedTest):
    head = "def no[U](): U = no()\ndef id[U](a: U): U = a\ndata D(x: Int)\n" + TRAIT + "impl T for D = True\n"

    def check(self, text, *expected):
        super().check(self.head + text, *[(len(self.head) + start, len(self.head) + end, code)
                                          for start, end, code in expected])

    def test_open_kinds(self):
        self.check("def f() = let x = no() in 1", (18, 20, "open"))
        self.check("def f() = no()", (10, 12, "open"))
        self.check("def f() = no() == no()", (10, 12, "open"), (18, 20, "open"))
        self.check("def f() = no() == 1")
        self.check("def f() = id(no())", (10, 12, "open"), (13, 15, "open"))
        self.check("def f() = id(no()) + 1")
        self.check("def f(): Int = no()")
        self.check("def f(): X = no()", (13, 15, "open"))
        self.check("def f() = if True then no() else 1")

    def test_fields_of_open_kinds(self):
        self.check("def f() = no().x", (10, 12, "open"), (15, 16, "open"))
        # At this moment counts, not the end.
        self.check("def f() = let d = no() in d.x + (if d == D(1) then 1 else 2)", (28, 29, "open"))
        self.check("def f() = let d = no() in (if d == D(1) then 1 else 2) + d.x")
        self.check("def f() = let d = no() in if d == D(1) then d.x else 2")
        self.check("def f() = let d = no() in if True then d.x else (if d == D(1) then 1 else 2)", (41, 42, "open"))

    def test_counts_of_loops_come_before_steps(self):
        self.check("def f() = let n = no() in loop x = 1 times n do n + x")
        self.check("def f() = loop x = no() times 2 do D(x.x)", (39, 40, "open"))
        self.check("def f() = let n = no() in loop x = 1 times n do n.x", (50, 51, "field"))

    def test_results_of_bounds(self):
        self.check("def f() = id(D(1)).x + id(2)")
        self.check("def f() = id(1).x", (16, 17, "field"))

    def test_doubled_bounds(self):
        # The second bound becomes an open kind, too, and no field tells it.
        self.check("def g[U, U](a: U) = 1\ndef f() = g(1)", (32, 33, "open"))


class TraitTest(JudgedTest):
    head = ("trait T with m(s): Int\ntrait R with r(s): Int\ndata D(x: Int)\ndata E()\nimpl T for D = 1\n"
            "impl T for Int = 2\nimpl R for Int = 2\ndef g[U: T, V](a: U, b: V) = 1\n")

    def check(self, text, *expected):
        super().check(self.head + text, *[(len(self.head) + start, len(self.head) + end, code)
                                          for start, end, code in expected])

    def test_methods(self):
        self.check("def f() = m(1) + m(D(2))")
        self.check("def f() = m(True) + m(E())", (10, 11, "trait"), (20, 21, "trait"))
        self.check("def f() = r(D(1))", (10, 11, "trait"))

    def test_bounds_of_calls(self):
        self.check("def f() = g(1, True) + g(D(1), E())")
        self.check("def f() = g(True, 1) + g(E(), D(1))", (10, 11, "trait"), (23, 24, "trait"))

    def test_bounds_as_kinds(self):
        self.check("def f[U: T, V: R, W](a: U, b: V, c: W) = m(a) + r(b) + g(a, c)")
        self.check("def f[U: T, V: R, W](a: U, b: V, c: W) = m(b) + r(a) + g(c, a)", (41, 42, "trait"), (48, 49, "trait"),
                   (55, 56, "trait"))

    def test_unknown_kinds(self):
        # Nothing is made equal with them, so the open kinds stand for nothing.
        self.check("def f(a: X) = m(a) + g(zz, 1) + g(a, a)", (14, 15, "open"), (21, 22, "open"), (32, 33, "open"))
        self.check("def f(a: X) = a.x + a(1)")

    def test_a_bound_without_a_right_trait(self):
        self.check("def f[U: X](a: U) = m(a)", (20, 21, "trait"))
        self.check("def q[U: X](a: U) = 1\ndef f() = q(True) + q(1)")

    def test_open_comes_before_trait(self):
        # One open kind of the call stands for nothing; then the others are not looked at.
        head = "def no[W](): W = no()\n"
        self.check(head + "def f() = g(True, no())", (32, 33, "open"), (40, 42, "open"))

    def test_impls_of_other_modules(self):
        program = {"m": "import n: T, m, D\ndef f(d: D) = m(d) + m(1)\n",
                   "n": "trait T with m(s): Int\ndata D()\n", "o": "import n: T, D\nimpl T for D = 1\n"}
        self.assertEqual(judged(program, "m", 1)[2], [(21, 22, "trait")])


class ImplsTest(unittest.TestCase):
    def test_impls(self):
        program = {"b": "trait T with m(s): Int\ndata D()\nimpl T for D = 1\nimpl T for Int = 1\n",
                   "a": "import b: T, D, m\nimpl T for Bool = 1\nimpl m for D = 1\nimpl X for D = 1\nimpl T for T = 1\n"}
        trait = ("item", "b", "T")
        self.assertEqual(impls(program), {(trait, ("builtin", "Bool")): ("a", 1),
                                          (trait, ("item", "b", "D")): ("b", 2),
                                          (trait, ("builtin", "Int")): ("b", 3)})

    def test_the_first_one(self):
        program = {"b": "trait T with m(s): Int\nimpl T for Int = 1\nimpl T for Int = 2\n",
                   "a": "import b: T\nimpl T for Bool = 1\nimpl T for Int = True\n", "c": "import b: T\nimpl T for Int = 3\n"}
        self.assertEqual(impls(program)[("item", "b", "T"), ("builtin", "Int")], ("a", 2))
        self.assertEqual(judged(program, "a", 2)[2], [(17, 21, "kind")])
        for module, chunk in (("b", 1), ("b", 2), ("c", 1)):
            self.assertEqual(judged(program, module, chunk), ([], [], [(5, 6, "double")]))

    def test_a_target_that_shadows_a_built_in_kind(self):
        program = {"m": "trait T with m(s): Int\ndata Int(x: Bool)\nimpl T for Int = s\ndef f() = m(1)\n"}
        self.assertEqual(impls(program), {(("item", "m", "T"), ("item", "m", "Int")): ("m", 2)})
        self.assertEqual(judged(program, "m", 3)[2], [(10, 11, "trait")])


class CycleTest(unittest.TestCase):
    def test_circles(self):
        program = {"m": "def a() = b()\ndef b() = a() + c()\ndef c() = 1\ndef d() = a()\ndef e() = e()\n"}
        self.assertEqual(cyclic(program), [("m", 0), ("m", 1), ("m", 4)])
        self.assertEqual([judged(program, "m", chunk)[2] for chunk in range(5)],
                         [[(4, 5, "cycle")], [(4, 5, "cycle")], [], [], [(4, 5, "cycle")]])

    def test_between_two_circles(self):
        program = {"m": "def a() = a() + b()\ndef b() = c()\ndef c() = c()\n"}
        self.assertEqual(cyclic(program), [("m", 0), ("m", 2)])

    def test_through_methods(self):
        program = {"a": "import b: T, m\nimpl T for Int = m(True)\nimpl T for Bool = 1\n",
                   "b": "trait T with m(s): Int\ndef f() = m(1)\n"}
        # Every impl of the trait is called, also that for the other kind.
        self.assertEqual(cyclic(program), [("a", 1)])
        self.assertEqual(judged(program, "a", 1)[2], [(5, 6, "cycle")])
        program["a"] = "import b: T, f\nimpl T for Int = f()\nimpl T for Bool = 1\n"
        self.assertEqual(cyclic(program), [("a", 1), ("b", 1)])

    def test_calls_that_are_problems(self):
        # A call with a wrong number of arguments calls all the same.
        self.assertEqual(cyclic({"m": "def a(x: Int) = a()\n"}), [("m", 0)])
        # A local of the name is no call, and a void item has no body.
        self.assertEqual(cyclic({"m": "def a(a: Int) = a()\ndata b()\ndef b() = b()\n"}), [])

    def test_results_in_circles(self):
        program = {"m": "def a() = 1 + b()\ndef b() = a()\ndef c() = b()\ndef d(): Int = d()\ndef e() = d()\n"}
        self.assertEqual([result_kind(program, "m", chunk) for chunk in range(5)],
                         [UNKNOWN, UNKNOWN, UNKNOWN, INT, INT])

    def test_long_chains(self):
        names = ["q" + letter + other for letter in "abcdefghij" for other in "abcdefghijklmnopqrstuv"]
        program = {}
        for number in range(6):
            rows = ["def %s()=%s()\n" % pair for pair in zip(names, names[1:])]
            head = "import m%d: z%d\n" % (number + 1, number + 1) if number < 5 else ""
            last = "z%d()" % (number + 1) if number < 5 else "True"
            program["m%d" % number] = (head + "".join(rows) + "def %s()=%s\n" % (names[-1], last)
                                       + "def z%d()=%s()\n" % (number, names[0]))
        self.assertEqual(result_kind(program, "m0", 1), BOOL)
        self.assertEqual(judged(program, "m0", 3)[0], [(10, 15, BOOL)])
        self.assertEqual(cyclic(program), [])
        program["m5"] = program["m5"].replace("True", "qaa()")
        self.assertEqual(len(cyclic(program)), len(names))
        self.assertEqual(result_kind(program, "m0", 1), UNKNOWN)


class ResultTest(unittest.TestCase):
    def test_told_and_inferred(self):
        program = {"m": "data D()\ndef a(): Bool = 1\ndef b() = D()\ndef c[U](x: U) = x\ndef d() = c(b())\n"
                        "def e(): X = 1\ndef f() = zz\ndef g() = c(c(True))\ndef no[U](): U = no()\ndef h() = no()\n"}
        kinds = [BOOL, ("data", "m", "D"), ("bound", "m", 3, 6), ("data", "m", "D"), UNKNOWN, UNKNOWN, BOOL,
                 ("bound", "m", 8, 7), UNKNOWN]
        self.assertEqual([result_kind(program, "m", chunk) for chunk in range(1, 10)], kinds)

    def test_written(self):
        program = {"m": "data D()\ndef f[Left, Right: T](x: Left) = x\n", "n": "data E()\n"}
        for kind, text in ((INT, "Int"), (BOOL, "Bool"), (UNKNOWN, "?"), (("data", "m", "D"), "D"),
                           (("data", "n", "E"), "E"), (("bound", "m", 1, 6), "Left"), (("bound", "m", 1, 12), "Right")):
            self.assertEqual(written(program, kind), text)
        # Also for a bound that is doubled, and for one of a void item.
        program = {"m": "def f[Up, Up](a: Up) = a\ndef f[V](a: V) = a\n"}
        self.assertEqual([written(program, ("bound", "m", 0, 10)), written(program, ("bound", "m", 1, 6))], ["Up", "V"])


if __name__ == "__main__":
    unittest.main()
