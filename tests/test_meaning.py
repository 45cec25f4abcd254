"""Points 46 to 49: what programs compute. Point 57, too: what is safe does not fail."""

import random
import unittest

from samenames.changes import extract, is_safe
from samenames.check import first_problem
from samenames.chunks import chunks
from samenames.errors import Refused, ServerError
from samenames.infer import judged, result_kind
from samenames.meaning import evaluate
from samenames.parser import read_item
from samenames.trees import nodes
from tests.evaluation import Evaluation, random_data
from tests.programs import random_program
from tests.remaking import Remaking

MOST = 4294967295
FUEL = 10000


class ValuesTest(unittest.TestCase):
    def value(self, text, *arguments, fuel=FUEL):
        """The outcome of the last def item of a text."""
        program = {"m": text}
        self.assertIsNone(first_problem(program), text)
        name = [read_item(text[start:end]) for start, end in chunks(text)][-1][1][0]
        return evaluate(program, "m", name, list(arguments), fuel)

    def check(self, value, expected, *arguments, head=""):
        """What `def f(..) = value` computes; there are fields a, b for integers and truths, by what is passed."""
        fields = ", ".join(name + (": Bool" if given in (True, False) and isinstance(given, bool) else ": Int")
                           for name, given in zip("ab", arguments))
        found = self.value(head + "def f(" + fields + ") = " + value + "\n", *arguments)
        self.assertEqual(found, ("value", expected), value)
        self.assertIs(type(found[1]), type(expected))

    def test_numbers_truths_groups_and_names(self):
        self.check("7", 7)
        self.check("4294967295", MOST)
        self.check("4294967296", 0)
        self.check("4294967298", 2)
        self.check("True", True)
        self.check("False", False)
        self.check("((7))", 7)
        self.check("a", 5, 5)
        self.check("b", True, 5, True)

    def test_integers_are_counted_modulo(self):
        self.check("a + b", 0, MOST, 1)
        self.check("a + b", MOST - 1, MOST, MOST)
        self.check("a - b", MOST, 0, 1)
        self.check("a - b", 1, 3, 2)
        self.check("a * b", 1, MOST, MOST)
        self.check("a * b", 0, 65536, 65536)
        self.check("-a", MOST, 1)
        self.check("-a", 0, 0)
        self.check("- -a", 7, 7)
        self.check("a / b", 2, 7, 3)
        self.check("a / b", 0, 2, 3)
        self.check("-a / b", MOST // 2, 1, 2)
        self.check("a - b - 1", 2, 5, 2)

    def test_comparisons(self):
        self.check("a < b", True, 1, 2)
        self.check("a < b", False, 2, 2)
        self.check("a < b", False, MOST, 0)
        self.check("0 < -a", True, 1)
        self.check("a == b", True, 2, 2)
        self.check("a == b", False, 2, 3)
        self.check("a == b", True, True, True)
        self.check("a == b", False, True, False)
        self.check("not a", False, True)
        self.check("not not a", True, True)

    def test_comparisons_of_data(self):
        head = "data P(x: Int, y: Bool)\ndata Q(p: P, z: Int)\n"
        self.check("Q(P(a, b), 1) == Q(P(3, True), 1)", True, 3, True, head=head)
        self.check("Q(P(a, b), 1) == Q(P(3, False), 1)", False, 3, True, head=head)
        self.check("Q(P(a, b), 1) == Q(P(3, True), 2)", False, 3, True, head=head)
        self.check("E() == E()", True, head="data E()\n")

    def test_division_by_zero_fails(self):
        for value in ("1 / a", "0 / a", "let x = 1 / a in 2", "if 1 / a == 1 then 1 else 2", "loop x = 1 / a times 1 do x",
                      "loop x = 1 times 1 / a do x", "loop x = 1 times 1 do 1 / a", "g(1 / a)", "P(1 / a).x", "-(1 / a)",
                      "g(2) + 1 / a", "(1 / a) + 1", "1 < 1 / a", "h(a)", "1 / h(1) * 0 + h(a)"):
            text = "data P(x: Int)\ndef g(n: Int) = 1\ndef h(n: Int) = 1 / n\ndef f(a: Int) = " + value + "\n"
            self.assertEqual(self.value(text, 0), ("failed",), value)
            self.assertEqual(self.value(text, 1)[0], "value", value)

    def test_parts_that_are_not_needed_are_not_evaluated(self):
        self.check("a and 1 / 0 == 1", False, False)
        self.check("a or 1 / 0 == 1", True, True)
        self.check("if a then 1 else 1 / 0", 1, True)
        self.check("if a then 1 / 0 else 2", 2, False)
        self.check("loop x = 3 times 0 do 1 / 0", 3)
        for text in ("def f(a: Bool) = a and 1 / 0 == 1\n", "def f(a: Bool) = (not a) or 1 / 0 == 1\n"):
            self.assertEqual(self.value(text, True), ("failed",))

    def test_and_or(self):
        for a in (True, False):
            for b in (True, False):
                self.check("a and b", a and b, a, b)
                self.check("a or b", a or b, a, b)

    def test_let(self):
        self.check("let x = a + 1 in x * x", 16, 3)
        self.check("let x = 1 in let x = x + 1 in let x = x * 5 in x", 10)
        self.check("(let x = 1 in x) + (let x = 2 in x)", 3)
        self.check("let a = a + 1 in a + (let a = a * 2 in a) + a", 16, 3)
        self.check("let x = 1 in (let x = 2 in x) + x", 3)

    def test_loops(self):
        self.check("loop x = a times 3 do x / 2", 5, 40)
        self.check("loop x = a times 0 do x + 1", 4, 4)
        self.check("loop x = a times 9 do x + 1", 13, 4)
        self.check("loop x = a times 10 do x + 1", 13, 4)
        self.check("loop x = a times -1 do x + 1", 13, 4)
        self.check("loop x = True times a do not x", False, 3)
        self.check("loop x = 0 times 9 do loop x = x times 9 do x + 1", 81)
        # The count is looked at once, and does not see the variable.
        self.check("let x = 2 in loop x = 5 times x do x + 10", 25)
        self.check("let y = 1 in loop x = 0 times 3 do let y = y + x in y", 3)

    def test_data_and_fields(self):
        head = "data P(x: Int, y: Bool)\ndata Q(p: P, z: Int)\n"
        self.check("P(a, b)", ("data", "m", "P", (3, False)), 3, False, head=head)
        self.check("Q(P(a, b), 1)", ("data", "m", "Q", (("data", "m", "P", (3, False)), 1)), 3, False, head=head)
        self.check("Q(P(a, b), 1).p.y", True, 3, True, head=head)
        self.check("Q(P(a, b), 1).z", 1, 3, True, head=head)
        self.check("E()", ("data", "m", "E", ()), head="data E()\n")
        point = ("data", "m", "P", (9, True))
        self.assertEqual(self.value(head + "def f(p: P, q: Q) = p.x + q.p.x + q.z\n", point, ("data", "m", "Q", (point, 2))),
                         ("value", 20))
        self.assertEqual(self.value(head + "def f(p: P) = p\n", point), ("value", point))

    def test_calls_of_def_items(self):
        head = "def g(a: Int, b: Int) = a - b * 2\ndef h[T](t: T) = t\n"
        self.check("g(b, a)", 1, 3, 7, head=head)
        self.check("h(g(h(a), 1)) == 3 and h(True)", True, 5, head=head)
        # The fields of the called item hide nothing of the calling one.
        self.check("let b = 1 in g(b, a) + b + a * 2", 2, 3, head=head)

    def test_calls_of_methods(self):
        head = ("data P(x: Int)\ndata Q()\ntrait T with m(self, by: Int): Int\nimpl T for Q = by * 100\n"
                "impl T for P = self.x + by\nimpl T for Int = self * by\nimpl T for Bool = if self then by else 0\n"
                "def twice[U: T](u: U) = m(u, 2)\n")
        self.check("m(a, 3)", 15, 5, head=head)
        self.check("m(a, 3)", 3, True, head=head)
        self.check("m(a, 3)", 0, False, head=head)
        self.check("m(P(4), 3)", 7, head=head)
        self.check("m(Q(), 3)", 300, head=head)
        self.check("twice(P(4)) + twice(Q()) + twice(a) + twice(True)", 6 + 200 + 10 + 2, 5, head=head)
        # A truth and an integer that are equal for Python have impls of their own.
        self.check("m(a == 1, 7) * 100 + m(a, 7)", 707, 1, head=head)

    def test_other_modules(self):
        program = {"a": "import b: T, m, P\nimport c: make\nimpl T for P = P(by.x - self.x)\n"
                        "def f(n: Int) = m(make(n), make(1)).x\n",
                   "b": "data P(x: Int)\ntrait T with m(self, by: P): P\n", "c": "import b: P\ndef make(n: Int) = P(n * 2)\n"}
        self.assertIsNone(first_problem(program))
        self.assertEqual(evaluate(program, "a", "f", [3], FUEL), ("value", MOST - 3))
        self.assertEqual(evaluate(program, "c", "make", [3], FUEL), ("value", ("data", "b", "P", (6,))))

    def test_bounds_take_data_with_an_impl(self):
        text = ("data P(x: Int)\ntrait T with m(self): Int\nimpl T for P = self.x\nimpl T for Int = self + 1\n"
                "def f[U: T, V](u: U, v: V) = m(u)\n")
        self.assertEqual(self.value(text, ("data", "m", "P", (7,)), True), ("value", 7))
        self.assertEqual(self.value(text, 7, ("data", "m", "P", (7,))), ("value", 8))
        self.assertEqual(self.value("def f[U](u: U, v: U) = u == v\n", True, True), ("value", True))
        # Data for two fields of one bound may be of different kinds, and are never equal then.
        text = "data P(x: Int)\ndata Q(x: Int)\ndata R(p: P)\ndef f[U](u: U, v: U) = u == v\n"
        p, q = ("data", "m", "P", (7,)), ("data", "m", "Q", (7,))
        for one, other in ((p, q), (p, 7), (p, True), (p, ("data", "m", "R", (p,))), (p, ("data", "n", "P", (7,)))):
            self.assertEqual(self.value(text, one, other), ("value", False))
            self.assertEqual(self.value(text, other, one), ("value", False))
            self.assertEqual(self.value(text, one, one), ("value", True))

    def test_parts_are_evaluated_in_the_order_of_their_places(self):
        # The first part that tires or fails tells the outcome.
        tiring = "(loop x = 1 times 9 do loop y = x times 9 do loop z = y times 9 do loop v = z times 9 do v + 1)"
        for one, other, outcome in ((tiring, "1 / 0", "tired"), ("1 / 0", tiring, "failed")):
            for value in (one + " + " + other, "g(" + one + ", " + other + ")", "let x = " + one + " in " + other,
                          "loop x = " + one + " times " + other + " do x", "if " + one + " == 1 then 1 else " + other,
                          "P(" + one + ", " + other + ").y", "loop x = 1 times " + one + " do " + other):
                text = "data P(x: Int, y: Int)\ndef g(x: Int, y: Int) = x\ndef f() = " + value + "\n"
                self.assertEqual(self.value(text, fuel=3000), (outcome,), value)


class FuelTest(unittest.TestCase):
    def needed(self, program, name, arguments, most):
        """The least fuel with which an evaluation is not tired; with more it stays the same."""
        outcomes = [evaluate(program, "m", name, arguments, fuel) for fuel in range(most)]
        tired = [outcome == ("tired",) for outcome in outcomes]
        needed = tired.index(False)
        self.assertEqual(tired, [True] * needed + [False] * (most - needed))
        self.assertEqual(len({repr(outcome) for outcome in outcomes[needed:]}), 1)
        return needed

    def check(self, text, needed, *arguments):
        self.assertIsNone(first_problem({"m": text}), text)
        self.assertEqual(self.needed({"m": text}, "f", list(arguments), needed + 5), needed, text)

    def test_each_tree_that_begins_takes_one(self):
        self.check("def f() = 1", 1)
        self.check("def f() = (1)", 2)
        self.check("def f() = - 1 + 2", 4)
        self.check("def f(a: Bool) = a and not True", 4, True)
        self.check("def f(a: Bool) = a and not True", 2, False)
        self.check("def f(a: Bool) = a or not True", 2, True)
        self.check("def f(a: Bool) = if a then 1 + 2 else 3", 5, True)
        self.check("def f(a: Bool) = if a then 1 + 2 else 3", 3, False)
        self.check("def f() = let x = 1 in x + x", 5)
        self.check("def f(n: Int) = loop x = n times 3 do x / 2", 12, 40)
        self.check("def f() = loop x = 1 times 20 do x", 12)
        self.check("def f() = loop x = 1 times 0 do x", 3)
        self.check("data P(x: Int)\ndef f() = P(1).x", 3)
        self.check("def g(x: Int) = x + 1\ndef f() = g(1)", 5)
        self.check("trait T with m(x): Int\nimpl T for Int = x + 1\ndef f() = m(1)", 5)
        self.check("def f(a: Int) = 1 / a + 1 + 1 + 1", 6, 0)

    def test_no_fuel(self):
        self.assertEqual(evaluate({"m": "def f() = 1"}, "m", "f", [], 0), ("tired",))
        self.assertEqual(evaluate({"m": "def f() = 1 / 0"}, "m", "f", [], 0), ("tired",))
        # A failure comes when both parts are there, and a tree that cannot begin tires before.
        self.assertEqual(evaluate({"m": "def f() = 1 / 0"}, "m", "f", [], 2), ("tired",))
        self.assertEqual(evaluate({"m": "def f() = 1 / 0"}, "m", "f", [], 3), ("failed",))

    def test_great_fuel(self):
        text = "def f(n: Int) = " + "loop x = n times 9 do " * 5 + "x + 1\n"
        self.assertIsNone(first_problem({"m": text}))
        self.assertEqual(evaluate({"m": text}, "m", "f", [0], 10 ** 9), ("value", 9))
        text = "def f(n: Int) = loop a = n times 9 do loop a = a times 9 do loop a = a times 9 do loop a = a times 9 do a + 1\n"
        self.assertEqual(evaluate({"m": text}, "m", "f", [0], 10 ** 9), ("value", 6561))
        self.assertEqual(evaluate({"m": text}, "m", "f", [0], 2000), ("tired",))

    def chain(self, many, last, step):
        """Def items of which each one calls the next one, in as many modules as they need."""
        rows = {"m": ""}
        module = "m"
        for number in range(many):
            row = "def f%d(n: Int): Int = " % number + step % ("f%d" % (number + 1) if number < many - 1 else last)
            if len(rows[module]) > 3500:
                rows[module] = "import m%d: f%d\n" % (len(rows), number) + rows[module]
                module = "m%d" % len(rows)
                rows[module] = ""
            rows[module] += row + "\n"
        return rows

    def test_the_deepest_evaluations(self):
        # Each item but the last one takes a call and, for its argument, a name that ends before the body begins.
        for many, outcome in ((119, ("value", 8)), (120, ("value", 8)), (121, ("tired",)), (125, ("tired",))):
            program = self.chain(many, "n", "%s(n)")
            program = {module: text.replace(" n(n)", " n") for module, text in program.items()}
            self.assertIsNone(first_problem(program))
            self.assertEqual(evaluate(program, "m", "f0", [8], FUEL), outcome, many)
        # With a sum around each call there are twice as many.
        for many, outcome in ((60, ("value", 8)), (61, ("tired",))):
            program = self.chain(many, "n", "0 + %s(n)")
            program = {module: text.replace(" n(n)", " n") for module, text in program.items()}
            self.assertEqual(evaluate(program, "m", "f0", [8], FUEL), outcome, many)

    def test_depth_within_a_body(self):
        for many, outcome in ((119, "value"), (120, "tired")):
            text = "def f(n: Int) = " + " + ".join(["n"] * (many + 1)) + "\n"
            self.assertIsNone(first_problem({"m": text}))
            # A chain of sums leans to the left: its first part begins inside of all of them.
            self.assertEqual(evaluate({"m": text}, "m", "f", [1], FUEL)[0], outcome, many)
        text = "def f(n: Int) = 1 / 0" + " + n" * 140 + "\n"
        self.assertEqual(evaluate({"m": text}, "m", "f", [1], FUEL), ("tired",))

    def test_depth_comes_back(self):
        # What has ended does not count any more.
        rows = "".join("def g%d(n: Int): Int = %s\n" % (number, "g%d(n)" % (number + 1) if number < 49 else "n")
                       for number in range(50))
        text = rows + "def f(n: Int) = g0(n) + g0(n) + g0(g0(n))\n"
        self.assertIsNone(first_problem({"m": text}))
        self.assertEqual(evaluate({"m": text}, "m", "f", [5], FUEL), ("value", 15))

    def test_deep_data(self):
        # As deep as six modules let data be; comparing it needs no fuel of its own.
        program, kinds = {}, []
        for module in "abcdef":
            text = "import %s: %s\n" % kinds[-1] if kinds else ""
            number = 0
            while len(text) < 3900:
                before = kinds[-1][1] if kinds else "Int"
                kinds.append((module, "D%s%d" % (module, number)))
                text += "data %s(x:%s)\n" % (kinds[-1][1], before)
                number += 1
            program[module] = text
        program["f"] += "def same(a: %s, b: %s) = a == b\n" % (kinds[-1][1], kinds[-1][1])
        self.assertIsNone(first_problem(program))

        def nested(value):
            for module, name in kinds:
                value = ("data", module, name, (value,))
            return value
        self.assertGreater(len(kinds), 1000)
        for first, second in ((1, 1), (1, 2)):
            found = evaluate(program, "f", "same", [nested(first), nested(second)], FUEL)
            self.assertEqual(found, ("value", first == second))


class RandomTest(unittest.TestCase):
    """Against another way to work outcomes out, and against the kinds."""

    def arguments(self, chance, reference, module, chunk):
        """Some data for a def item, or None if there are none."""
        fields = reference.items[module, chunk][3]
        found = [random_data(chance, reference, reference.kind_named(module, chunk, kind)) for _, kind in fields]
        return None if None in found else found

    def fits(self, data, kind):
        """Whether data are what a kind tells; a bound may be anything."""
        if kind[0] == "Int":
            return type(data) is int and 0 <= data <= MOST
        if kind[0] == "Bool":
            return type(data) is bool
        return kind[0] == "bound" or type(data) is tuple and data[:3] == kind

    def test_like_the_other(self):
        chance = random.Random(41)
        counts = {}
        for _ in range(150):
            program = random_program(chance)
            other = Evaluation(program)
            for module in program:
                for name, (sort, chunk, _) in other.reference.declared[module].items():
                    data = self.arguments(chance, other.reference, module, chunk) if sort == "def" else None
                    if data is None:
                        continue
                    before = list(data)
                    for fuel in (0, chance.randrange(1, 40), 3000):
                        found = evaluate(program, module, name, data, fuel)
                        self.assertEqual(found, other.outcome(module, name, data, fuel), (program, module, name, data, fuel))
                        counts[found[0]] = counts.get(found[0], 0) + 1
                    self.assertEqual(data, before)
                    if found[0] == "value":
                        self.assertTrue(self.fits(found[1], result_kind(program, module, chunk)), (program, name, found))
        for word in ("value", "failed", "tired"):
            self.assertGreater(counts[word], 30, word)

    def test_what_is_safe_does_not_fail(self):
        chance = random.Random(42)
        safe, unsafe, evaluated = 0, 0, 0
        for _ in range(60):
            program = random_program(chance, 700)
            remaking = Remaking(program)
            for module in program:
                for chunk, shift, value in list(remaking.bodies(module)):
                    for tree in nodes(value):
                        found = is_safe(program, module, chunk, tree)
                        self.assertEqual(found, remaking.safe(module, shift, tree), (program, module, tree))
                        safe, unsafe = safe + found, unsafe + (not found)
                        if found and chance.random() < 0.15:
                            evaluated += self.evaluated_alone(chance, program, module, shift, tree)
        self.assertGreater(min(safe, unsafe), 100)
        self.assertGreater(evaluated, 60)

    def evaluated_alone(self, chance, program, module, shift, tree):
        """Make a def item of a safe tree, and count for how many data it was evaluated."""
        try:
            made = extract(program, module, shift + tree[1], shift + tree[2], "alone")
        except Refused:
            return 0
        reference = Evaluation(made).reference
        chunk = reference.declared[module]["alone"][1]
        many = 0
        for _ in range(3):
            data = self.arguments(chance, reference, module, chunk)
            if data is not None:
                self.assertEqual(evaluate(made, module, "alone", data, FUEL)[0], "value", (made, data))
                many += 1
        return many

    def test_the_kinds_of_all_bodies_are_known(self):
        chance = random.Random(43)
        for _ in range(30):
            program = random_program(chance)
            for module in program:
                for chunk, _, _ in list(Remaking(program).bodies(module)):
                    kinds = judged(program, module, chunk)[0]
                    self.assertNotIn(("unknown",), [kind for _, _, kind in kinds])

    def test_nothing_is_changed(self):
        program = {"m": "data P(x: Int)\ndef f(a: Int, p: P) = P(a + p.x)\n"}
        arguments = [1, ("data", "m", "P", (2,))]
        self.assertEqual(evaluate(program, "m", "f", arguments, 100), ("value", ("data", "m", "P", (3,))))
        self.assertEqual(arguments, [1, ("data", "m", "P", (2,))])
        self.assertEqual(program, {"m": "data P(x: Int)\ndef f(a: Int, p: P) = P(a + p.x)\n"})

    def test_only_own_errors_are_there(self):
        from samenames import meaning
        for name, found in vars(meaning).items():
            if isinstance(found, type) and issubclass(found, Exception) and found is not ServerError:
                self.assertEqual(found.__bases__, (ServerError,), name)


if __name__ == "__main__":
    unittest.main()
