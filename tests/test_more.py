"""Points 64 to 66: tidying as a change, kinds of results that are told or not, and fixes."""

import random
import unittest

from samenames.check import first_problem, problems
from samenames.errors import InvalidEdit
from samenames.infer import result_kind
from samenames.meaning import evaluate
from samenames.more import annotate, fixes, tidy, unannotate, with_fix
from samenames.printer import tidied
from tests.helpers import at
from tests.programs import random_program, spoiled, wild_program
from tests.reference import Reference
from tests.refusals import ChangeTest

UNSOUND = {"a": "def f() = 1\n", "b": "def g() = 1 + zz\n"}


class TidyTest(ChangeTest):
    def test_texts(self):
        self.changed("def f() = 1\n", tidy, {"m": "def f( )=(1)\n\n"}, "m")
        self.changed("import n: g\ndef f(a: Int) = g(a) + 1\n", tidy,
                     {"m": "import n:g\ndef f( a:Int )=(g( a ))+1", "n": "def g(a:Int)=a"}, "m")
        self.changed("\n  x\ndef f() = 1 # a\ndef g() = f()\n", tidy, {"m": "\n  x\ndef f() = 1 # a\ndef g()=f( )\n"}, "m")
        self.changed("", tidy, {"m": ""}, "m")
        self.changed("def f() = 1\n", tidy, {"m": "def f() = 1\n"}, "m")

    def test_only_this_module(self):
        program = {"m": "def f( )=1", "n": "def g( )=1"}
        self.changed({"m": "def f( )=1", "n": "def g() = 1\n"}, tidy, program, "n")

    def test_names_mean_what_they_meant(self):
        text = ("trait T with m( s,by:Int ):Int\nimpl T for Int=(s)+(by)\ndata D( x:Int )\n"
                "def f[U:T]( u:U,d:D )=let s=m( u,d.x )in(loop d=s times 2 do(d+1))\n")
        expected = ("trait T with m(s, by: Int): Int\nimpl T for Int = s + by\ndata D(x: Int)\n"
                    "def f[U: T](u: U, d: D) = let s = m(u, d.x) in loop d = s times 2 do d + 1\n")
        self.changed(expected, tidy, {"m": text}, "m")

    def test_refusals(self):
        self.refused(("unsound", "b", 14), tidy, UNSOUND, "a")
        text = "".join("def f%d()=1%s\n" % (number, "+1" * 99) for number in range(10, 28))
        self.assertIsNone(first_problem({"m": text}))
        self.assertLess(len(text), 4000)
        self.refused(("long", "m", 0), tidy, {"a": "", "m": text}, "m")
        # Broken items make a program unsound, so none is tidied around them.
        self.refused(("unsound", "m", 6), tidy, {"m": "def f(\n"}, "m")

    def test_random_programs(self):
        chance = random.Random(61)
        for _ in range(40):
            program = random_program(chance, 800)
            for module in program:
                found = tidy(program, module)
                self.assertEqual(found, {**program, module: tidied(program[module])})
                self.assertIsNone(first_problem(found))
                self.assertEqual(tidy(found, module), found)


class AnnotateTest(ChangeTest):
    def test_kinds(self):
        self.changed("def f(): Int = 1\n", annotate, {"m": "def f() = 1\n"}, "m", 4)
        self.changed("def f(a: Int): Bool=a<2\n", annotate, {"m": "def f(a: Int)=a<2\n"}, "m", 4)
        self.changed("data D()\ndef f(d: D ): D = d\n", annotate, {"m": "data D()\ndef f(d: D ) = d\n"}, "m", 13)
        self.changed("def f[U, V](u: U, v: V): V = v\n", annotate, {"m": "def f[U, V](u: U, v: V) = v\n"}, "m", 4)
        self.changed("def f(\n  # )\n  ): Int # )\n = (1)\n", annotate, {"m": "def f(\n  # )\n  ) # )\n = (1)\n"}, "m", 4)
        # A result that is inferred through others.
        self.changed("def f(): Bool = g()\ndef g() = h(True)\ndef h[U](u: U) = u\n", annotate,
                     {"m": "def f() = g()\ndef g() = h(True)\ndef h[U](u: U) = u\n"}, "m", 4)

    def test_any_occurrence_of_the_item(self):
        program = {"m": "import n: f\ndef g() = f(1)\n", "n": "def f(a: Int) = a\n"}
        expected = {**program, "n": "def f(a: Int): Int = a\n"}
        for module, offset in (("m", at(program["m"], "f")), ("m", at(program["m"], "f(")), ("n", 4)):
            self.changed(expected, annotate, program, module, offset)

    def test_order_of_refusals(self):
        self.refused(("unsound", "b", 14), annotate, UNSOUND, "a", 4)
        program = {"m": "data D()\ntrait T with m(s): Int\nimpl T for Int = s\ndef f(a: Int): Int = m(a)\n"}
        text = program["m"]
        for part in ("data", "D()", "T with", "m(s)", "s):", "T for", "Int =", "def f", "a: Int", "m(a)", "a)"):
            self.refused(("symbol", "m", at(text, part)), annotate, program, "m", at(text, part))
            self.refused(("symbol", "m", at(text, part)), unannotate, program, "m", at(text, part))
        self.refused(("symbol", "m", len(text)), annotate, program, "m", len(text))
        self.refused(("told", "m", at(text, "f(a")), annotate, program, "m", at(text, "f(a"))

    def test_a_kind_that_has_no_name_in_the_module(self):
        program = {"m": "import n: make\ndef f() = make()\n", "n": "data D()\ndef make() = D()\n"}
        self.refused(("kind", "m", 19), annotate, program, "m", 19)
        program["m"] = "import n: make\ndata D(x: Int)\ndef f() = make()\n"
        self.refused(("kind", "m", 34), annotate, program, "m", 34)
        program["m"] = "import n: make, D\ndef f() = make()\n"
        self.changed({**program, "m": "import n: make, D\ndef f(): D = make()\n"}, annotate, program, "m", 22)
        # What counts is the module of the item, not the one in which it is asked for.
        program = {"m": "import n: make\ndef f() = make()\n", "n": "data D()\ndef make() = D()\n"}
        self.changed({**program, "n": "data D()\ndef make(): D = D()\n"}, annotate, program, "m", 25)

    def test_names_that_mean_something_else(self):
        # The name of the kind would mean the bound, or the data item.
        program = {"m": "data D()\ndef f[D](a: D) = e()\ndef e(): D = D()\n"}
        self.refused(("clash", "m", at("data D()\ndef f[D](a: D): D = e()", "D =")), annotate, program, "m", 13)
        program = {"m": "data Int(x: Bool)\ndef f() = 1\n"}
        self.refused(("clash", "m", 27), annotate, program, "m", 22)
        self.assertIsNone(first_problem(program))

    def test_long_texts(self):
        text = "def f() = 1 #" + "x" * 3980 + "\n"
        self.refused(("long", "m", 0), annotate, {"a": "", "m": text + "\n" * (3999 - len(text))}, "m", 4)
        self.refused(("long", "m", 0), annotate, {"m": text + "\n" * (3996 - len(text))}, "m", 4)
        text += "\n" * (3995 - len(text))
        self.assertEqual(len(annotate({"m": text}, "m", 4)["m"]), 4000)

    def test_unannotate(self):
        self.changed("def f() = 1\n", unannotate, {"m": "def f(): Int = 1\n"}, "m", 4)
        self.changed("def f()= 1\n", unannotate, {"m": "def f()  :\n  # ) : Bool =\n  Int= 1\n"}, "m", 4)
        self.changed("def f[U](u: U) # x\n = u\n", unannotate, {"m": "def f[U](u: U): U # x\n = u\n"}, "m", 4)
        self.changed("data D()\ndef g() = f()\ndef f() = D()\n", unannotate,
                     {"m": "data D()\ndef g() = f()\ndef f(): D = D()\n"}, "m", 19)
        self.refused(("untold", "m", 4), unannotate, {"m": "def f() = 1\n"}, "m", 4)
        self.refused(("unsound", "b", 14), unannotate, UNSOUND, "a", 4)

    def test_the_import_of_a_kind_stays(self):
        program = {"m": "import n: make, D\ndef f(): D = make()\n", "n": "data D()\ndef make() = D()\n"}
        self.changed({**program, "m": "import n: make, D\ndef f() = make()\n"}, unannotate, program, "m", 22)

    def test_there_and_back(self):
        chance = random.Random(62)
        there, back = 0, 0
        for _ in range(40):
            program = random_program(chance, 700)
            reference = Reference(program)
            for module in program:
                for name, (sort, chunk, start) in reference.declared[module].items():
                    if sort != "def":
                        continue
                    offset = reference.shift[module, chunk] + start
                    kind = reference.result(module, chunk)
                    known = kind[0] != "data" or reference.scope(module).get(kind[2]) == ("item",) + kind[1:]
                    if reference.items[module, chunk][4] is not None:
                        less = unannotate(program, module, offset)
                        self.assertEqual(result_kind(less, module, chunk), kind)
                        self.assertEqual(annotate(less, module, offset), program)
                        back += 1
                    elif known:
                        more = annotate(program, module, offset)
                        self.assertEqual(result_kind(more, module, chunk), kind)
                        self.assertEqual(unannotate(more, module, offset), program)
                        there += 1
                    else:
                        self.refused(("kind", module, offset), annotate, program, module, offset)
        self.assertGreater(min(there, back), 30)

    def test_outcomes_stay(self):
        program = {"m": "def f(n: Int) = loop x = n times 3 do x / 2\n"}
        more = annotate(program, "m", 4)
        for fuel in (3, 5, 12, 100):
            self.assertEqual(evaluate(more, "m", "f", [40], fuel), evaluate(program, "m", "f", [40], fuel))


class FixesTest(unittest.TestCase):
    def check(self, program, *expected):
        before = dict(program)
        self.assertEqual(fixes(program, "m"), list(expected))
        self.assertEqual(program, before)

    def test_fixes(self):
        text = "def f(d: D) = g(d) + D(1).x + g(zz)\n"
        program = {"m": text, "c": "data D(x: Int)\ndef g(d: D) = 1\n", "a": "def g() = 1\ndef q() = 1\n", "b": "def h() = 1\n"}
        self.check(program, (at(text, "D"), "D", "c"), (at(text, "g(d"), "g", "a"), (at(text, "g(d"), "g", "c"),
                   (at(text, "D(1"), "D", "c"), (at(text, "g(zz"), "g", "a"), (at(text, "g(zz"), "g", "c"))

    def test_what_is_offered(self):
        other = {"n": "data D()\ntrait T with m(s): Int\ndef f() = 1\nimport o: q\ndata f()\n", "o": "def q() = 1\n"}
        for text, name in (("def g(a: D) = 1", "D"), ("impl T for Int = 1", "T"), ("def g() = m(1)", "m"), ("def g() = f", "f"),
                           ("impl T for D = 1", "D"), ("def g[U: T]() = 1", "T"), ("def g(): D = 1", "D"),
                           ("trait Q with r(s, by: D): Int", "D"), ("trait Q with r(s): D", "D"), ("data E(x: D)", "D")):
            found = fixes({**other, "m": "\n" + text}, "m")
            self.assertIn((1 + text.rindex(name), name, "n"), found, text)
        # A name that a module imports only, one that is void there, and one that no other module has.
        self.assertEqual(fixes({**other, "m": "def g() = q()"}, "m"), [(10, "q", "o")])
        self.assertEqual(fixes({"m": "def g() = h()\n", "n": "import m: h\ndef h() = 1\n"}, "m"), [])
        self.assertEqual(fixes({"m": "def g() = h()\n", "n": "import m: g\n"}, "m"), [])

    def test_only_unknown_names_outside_of_imports(self):
        other = {"n": "def f() = 1\ndata D()\n"}
        for text in ("import o: f\n", "import n: q\n", "import f: D\n", "def f(\n", "def g() = True + 1\n", "data f()\ndef f() = D()\n",
                     "def g(D: Int) = D\n", "import n: f\ndef g() = f()\n", "  f\n", "# f\n"):
            self.assertEqual(fixes({**other, "m": text}, "m"), [], text)
        self.assertEqual(fixes({"o": "def f() = 1\n", "n": "", "m": "import n: f\ndef g() = f()\n"}, "m"), [(22, "f", "o")])

    def test_with_fix(self):
        program = {"m": "def g() = f()\n", "n": "def f() = 1\n"}
        before = dict(program)
        found = with_fix(program, "m", (10, "f", "n"))
        self.assertEqual(found, {"m": "import n: f\ndef g() = f()\n", "n": "def f() = 1\n"})
        self.assertEqual(program, before)
        self.assertIsNone(first_problem(found))
        # It is done for any program, whatever comes of it.
        self.assertEqual(with_fix({"m": "  x\n", "n": "def f("}, "m", (10, "f", "n")),
                         {"m": "import n: f\n  x\n", "n": "def f("})
        self.assertEqual(with_fix({"m": "", "n": ""}, "m", (0, "f", "n"))["m"], "import n: f\n")

    def test_with_fix_of_long_texts(self):
        line = len("import n: f\n")
        program = {"m": "#" * (4000 - line), "n": ""}
        self.assertEqual(len(with_fix(program, "m", (0, "f", "n"))["m"]), 4000)
        program["m"] += "#"
        before = dict(program)
        with self.assertRaises(InvalidEdit):
            with_fix(program, "m", (0, "f", "n"))
        self.assertEqual(program, before)

    def test_random_programs(self):
        chance = random.Random(63)
        many, better = 0, 0
        for number in range(150):
            program = wild_program(chance) if number % 2 else spoiled(chance, random_program(chance), 4)
            if number % 4 == 0:
                program = {module: "".join(row + "\n" for row in text.split("\n") if not row.startswith("import"))
                           for module, text in program.items()}
            reference = Reference(program)
            for module in program:
                expected = []
                for chunk in reference.chunks_of(module):
                    if reference.items[module, chunk][0] == "import":
                        continue
                    for start, end, code in reference.names(module, chunk)[1]:
                        start, end = start + reference.shift[module, chunk], end + reference.shift[module, chunk]
                        name = program[module][start:end]
                        expected += [(start, name, other) for other in sorted(program)
                                     if code == "unknown" and other != module and name in reference.declared[other]]
                found = fixes(program, module)
                self.assertEqual(found, sorted(expected))
                for fix in found:
                    fixed = with_fix(program, module, fix)
                    line = "import %s: %s\n" % (fix[2], fix[1])
                    self.assertEqual(fixed, {**program, module: line + program[module]})
                    codes = [(start, code) for start, _, code in problems(fixed, module)]
                    better += (fix[0] + len(line), "unknown") not in codes
                many += len(found)
        self.assertGreater(many, 100)
        self.assertGreater(better, many // 2)


if __name__ == "__main__":
    unittest.main()
