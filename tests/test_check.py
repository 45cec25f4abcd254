"""Point 31, and all points from 14 on against another way to work them out."""

import random
import unittest

from samenames.check import all_occurrences, first_problem, problems
from samenames.chunks import chunks
from samenames.infer import cyclic, impls, judged, result_kind
from samenames.names import locals_at, name_problems, occurrences
from tests.helpers import at, problem
from tests.programs import random_program, spoiled, wild_program
from tests.reference import Reference

SOUND = {
    "m": """import n: D, area
data P(x: Int, y: D)
trait T with m(self, by: Int): Int

impl T for P = self.x + by
impl T for Int = self * by
# a note
def f[U: T](a: U, n: Int) = m(a, n) + m(3, n)
def g(p: P) =
  f(p, 1) + p.y.z + area(p.y)  # more
def h() = let q = P(1, D(2)) in q.y
def k(a: Int) = if a < 2 then h().z else loop x = a times 3 do x + 1
""",
    "n": "\ndata D(z: Int)\ndef area(d: D) = d.z * d.z"}


class ProblemsTest(unittest.TestCase):
    def check(self, text, *expected, **others):
        self.assertEqual(problems({"m": text, **others}, "m"), sorted(expected), text)

    def test_a_sound_program(self):
        self.assertEqual((problems(SOUND, "m"), problems(SOUND, "n")), ([], []))
        self.assertIsNone(first_problem(SOUND))
        for program in ({}, {"m": ""}, {"m": " def\n\n"}, {"m": "# note"}, {"m": "", "n": "\n"}):
            self.assertIsNone(first_problem(program))
            for module in program:
                self.assertEqual(problems(program, module), [])

    def test_places_count_in_the_text(self):
        text = "\n  # before\ndef f() = 1 + True\n\ndef g(\n\ndef h() = zz\ndef i() = 1 2"
        self.check(text, problem(text, "True", "kind"), (at(text, "def g(") + 6,) * 2 + ("syntax",),
                   problem(text, "zz", "unknown"), (len(text) - 1, len(text), "syntax"))

    def test_each_code(self):
        head = "data D(x: Int)\ntrait T with m(s): Int\nimpl T for Int = 1\ndef no[U](): U = no()\n"
        # "cycle" stands here for the first time: the last def item calls itself.
        self.assertEqual([row[2] for row in problems({"m": head}, "m")], ["cycle"])
        head = head.replace("no()\n", "no2()\n") + "def no2[U](): U = no3()\ndef no3[U](): U = no()\n"
        self.assertEqual([row[2] for row in problems({"m": head}, "m")], ["cycle"] * 3)
        self.check("def", (3, 3, "syntax"))
        self.check("data D()\ndata D()", (14, 15, "double"))
        self.check("data D(x: Int, x: Int)", (15, 16, "double"))
        self.check("trait T with m(s): Int\nimpl T for Int = 1\nimpl T for Int = 2\n", (47, 48, "double"))
        self.check("def f() = x", (10, 11, "unknown"))
        self.check("def f() = f", (10, 11, "sort"))
        self.check("def f() = 1 + True", (14, 18, "kind"))
        self.check("data D()\ndef f() = D(1) == D()", (19, 20, "count"))
        self.check("def f[U]() = 1\ndef g() = f()", (25, 26, "open"))
        self.check("trait T with m(s): Int\ndef g() = m(1)", (33, 34, "trait"))
        self.check("def g() = 1.x", (12, 13, "field"))
        self.check("def g() = g()", (4, 5, "cycle"))

    def test_problems_in_ascending_order_each_once(self):
        text = "def f(a: X, a: X) = zz + (True + f) and 1\ndef f() = yy\n"
        self.check(text, problem(text, "X", "unknown"), problem(text, "a", "double", 1), problem(text, "X", "unknown", 1),
                   problem(text, "zz", "unknown"), problem(text, "zz + (True + f)", "kind"),
                   problem(text, "True", "kind"), problem(text, "f)", "sort")[:1] + (at(text, "f)") + 1, "sort"),
                   problem(text, "1", "kind"), (at(text, "f() =", 0), at(text, "f() =") + 1, "double"))
        found = problems({"m": text}, "m")
        self.assertEqual(found, sorted(set(found)))

    def test_two_codes_at_one_place(self):
        # The impl item calls itself, and the place of its first mark is that of the problem.
        text = "trait T with m(s): Int\nimpl T for Int = m(s)\n"
        self.check(text, (28, 29, "cycle"))
        text = "def f(a: Int) = f(1, 2)\n"
        self.check(text, (4, 5, "cycle"), (16, 17, "count"))
        text = "def g[U: T]() = 1\ntrait T with m(s): Int\ndef f() = g().x\n"
        self.check(text, problem(text, "g().", "open")[:1] + (at(text, "g().") + 1, "open"), problem(text, "x", "field"))

    def test_first_problem(self):
        program = {"b": "def f() = x\n", "c": "def\n", "a": "def f() = 1\n"}
        self.assertEqual(first_problem(program), ("b", 10))
        program["a"] = "def f() = 1\ndef g() = True + x\n"
        self.assertEqual(first_problem(program), ("a", 22))
        program["a"] += "def h() ="
        self.assertEqual(first_problem(program), ("a", 22))
        del program["a"], program["b"]
        self.assertEqual(first_problem(program), ("c", 3))

    def test_occurrences(self):
        text = SOUND["m"]
        rows = all_occurrences(SOUND, "m")
        self.assertEqual([text[start:end] for start, end, _, _ in rows][:12],
                         ["n", "D", "area", "P", "x", "Int", "y", "D", "T", "m", "self", "by"])
        starts = [row[0] for row in rows]
        self.assertEqual(starts, sorted(set(starts)))
        fields = [(start, symbol) for start, _, symbol, declares in rows if symbol[0] == "field" and not declares]
        self.assertEqual(fields, [(at(text, "x + by"), ("field", "m", "P", "x")), (at(text, "y.z"), ("field", "m", "P", "y")),
                                  (at(text, "z + area"), ("field", "n", "D", "z")),
                                  (at(text, "y)  #"), ("field", "m", "P", "y")), (at(text, "y\ndef k"), ("field", "m", "P", "y")),
                                  (at(text, "z else"), ("field", "n", "D", "z"))])
        self.assertEqual(all_occurrences(SOUND, "n")[0], (6, 7, ("item", "n", "D"), True))

    def test_in_a_sound_program_each_name_is_an_occurrence(self):
        from samenames.tokens import tokens
        for module, text in SOUND.items():
            self.assertEqual([row[:2] for row in all_occurrences(SOUND, module)],
                             [(start, end) for sort, start, end in tokens(text) if sort == "name"])

    def test_the_lists_are_new(self):
        program = {"m": "def f() = x\n"}
        problems(program, "m").clear()
        all_occurrences(program, "m").clear()
        self.assertEqual((len(problems(program, "m")), len(all_occurrences(program, "m"))), (1, 1))
        self.assertEqual(program, {"m": "def f() = x\n"})


class RandomTest(unittest.TestCase):
    def check(self, program):
        reference = Reference(program)
        for module in program:
            self.assertEqual(problems(program, module), reference.problems(module), program)
            self.assertEqual(all_occurrences(program, module), reference.occurrences(module), program)
        self.assertEqual((cyclic(program), impls(program)), (reference.cyclic(), reference.impls))
        return reference

    def check_chunks(self, program, reference):
        for module, chunk in reference.items:
            names = reference.names(module, chunk)
            self.assertEqual(judged(program, module, chunk), tuple(reference.judged(module, chunk)[:3]), program)
            self.assertEqual(occurrences(program, module, chunk), names[0])
            self.assertEqual(name_problems(program, module, chunk), names[1])
            if reference.items[module, chunk][0] == "def" and not reference.void(module, chunk):
                self.assertEqual(result_kind(program, module, chunk), reference.result(module, chunk))

    def test_programs_like_the_reference(self):
        chance = random.Random(8)
        for number in range(25):
            program = random_program(chance)
            self.check(program)
            for other in [wild_program(chance) for _ in range(4)] + [spoiled(chance, program, 1 + number % 5)]:
                reference = self.check(other)
                if number % 5 == 0:
                    self.check_chunks(other, reference)

    def locals_around(self, reference, module, chunk, offset):
        """What locals_at should give, by walking down the value."""
        item = reference.items[module, chunk]
        if item[0] not in ("def", "impl") or reference.void(module, chunk):
            return {}

        def walk(tree, around):
            found = around if tree[1] <= offset <= tree[2] else None
            parts = tree[4] if tree[0] == "call" else [part for part in tree[3:] if isinstance(part, tuple)]
            for number, part in enumerate(parts):
                inner = around
                if tree[0] in ("let", "loop") and number == len(parts) - 1:
                    inner = {**around, tree[3]: ("local", module, chunk, tree[4])}
                deeper = walk(part, inner)
                found = found if deeper is None else deeper
            return found
        return walk(item[-1], reference.parameters(module, chunk)) or {}

    def test_locals(self):
        chance = random.Random(10)
        known, void = 0, 0
        for number in range(90):
            program = wild_program(chance) if number % 3 else random_program(chance, 500)
            reference = Reference(program)
            for module, chunk in reference.items:
                start, end = chunks(program[module])[chunk]
                for offset in chance.sample(range(end - start + 1), min(end - start, 12)):
                    expected = self.locals_around(reference, module, chunk, offset)
                    self.assertEqual(locals_at(program, module, chunk, offset), expected, (program, module, chunk, offset))
                    known += expected != {}
                    void += reference.items[module, chunk][0] == "def" and reference.void(module, chunk)
        self.assertGreater(min(known, void), 100)

    def test_made_programs_are_sound(self):
        chance = random.Random(9)
        for _ in range(25):
            program = random_program(chance)
            self.assertIsNone(first_problem(program), program)


if __name__ == "__main__":
    unittest.main()
