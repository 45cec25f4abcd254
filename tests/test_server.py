"""Points 38 to 45, and point 2 for the server."""

import random
import unittest

from samenames.check import all_occurrences, problems
from samenames.errors import Cancelled, FileExists, InvalidEdit, NothingToUndo, Refused, UnknownFile
from samenames.server import Server
from tests.helpers import at
from tests.programs import WORDS, random_program, spoiled, wild_program

M = """import n: D, area
data P(x: Int, y: D)
trait T with m(self, by: Int): Int
impl T for P = self.x + by
impl T for Int = self * by
def f[U: T](a: U, n: Int) = m(a, n) + m(3, n)
def g(p: P) = f(p, 1) + p.y.z + area(p.y)
def h() = let q = P(1, D(2)) in q.y
def k(a: Int) = if a < 2 then h().z else loop x = a times 3 do x + 1
"""
N = "\ndata D(z: Int)\ndef area(d: D) = d.z * d.z"
QUESTIONS = ("problems", "outline", "symbol_at", "definition", "uses", "kind_at", "completions")


def ask(server, question, module, offset):
    """The answer to a question; the first two have no offset."""
    if question in ("problems", "outline"):
        return getattr(server, question)(module)
    return getattr(server, question)(module, offset)


def new():
    return Server({"m": M, "n": N})


class ProgramTest(unittest.TestCase):
    def test_texts(self):
        server = Server({"n": N, "m": M})
        self.assertEqual(server.modules(), ["m", "n"])
        self.assertEqual((server.text("m"), server.text("n")), (M, N))
        self.assertEqual(server.program(), {"m": M, "n": N})
        self.assertEqual((Server({}).modules(), Server({}).program()), ([], {}))

    def test_what_is_given_is_copied_and_what_is_handed_out_is_new(self):
        program = {"m": "def f(a: Int, b: Int) = a + x\n"}
        server = Server(program)
        program["m"] = ""
        program["o"] = ""
        self.assertEqual(server.program(), {"m": "def f(a: Int, b: Int) = a + x\n"})
        server.program().clear()
        server.modules().clear()
        for question in QUESTIONS:
            answer = ask(server, question, "m", 14)
            if isinstance(answer, list):
                self.assertTrue(answer, question)
                answer.clear()
                self.assertTrue(ask(server, question, "m", 14), question)
        self.assertEqual(server.modules(), ["m"])
        order = [1, 0]
        server.edit("m", (28, 29, "b"))
        server.reorder("m", 4, order)
        order.append(2)
        self.assertEqual(order, [1, 0, 2])
        server.undo()
        server.redo()
        self.assertEqual(server.text("m"), "def f(b: Int, a: Int) = a + b\n")

    def test_invalid_programs(self):
        names = ["a", "b", "c", "d", "e", "f", "g"]
        self.assertEqual(Server({name: "" for name in names[:6]}).modules(), names[:6])
        for program in ({name: "" for name in names}, {"def": ""}, {"": ""}, {"1a": ""}, {"a b": ""}, {"_a": ""},
                        {"a\n": ""}, {"a": "\t"}, {"a": "x" * 4001}, {"a": "", "b": chr(37)}, {"a": chr(233)}):
            with self.assertRaises(InvalidEdit):
                Server(program)
        self.assertEqual(len(Server({"a": "x" * 4000}).text("a")), 4000)
        self.assertEqual(Server({"Int": "", "x_1": ""}).modules(), ["Int", "x_1"])

    def test_opening(self):
        server = new()
        server.open_file("o", "def x() = 1\n")
        self.assertEqual(server.modules(), ["m", "n", "o"])
        self.assertEqual(server.outline("o"), [("x", "def", 4)])
        for module, text in (("o", ""), ("m", "\t"), ("n", "x" * 5000)):
            with self.assertRaises(FileExists):
                server.open_file(module, text)
        for module, text in (("if", ""), ("", ""), ("a", "\t"), ("a", "x" * 4001)):
            with self.assertRaises(InvalidEdit):
                server.open_file(module, text)
        for module in "pqr":
            server.open_file(module, "")
        with self.assertRaises(InvalidEdit):
            server.open_file("s", "")
        with self.assertRaises(FileExists):
            server.open_file("r", "")
        server.close_file("p")
        server.open_file("s", "")
        self.assertEqual(server.modules(), ["m", "n", "o", "q", "r", "s"])

    def test_closing(self):
        server = new()
        self.assertEqual(server.problems("m"), [])
        server.close_file("n")
        self.assertEqual(server.problems("m")[0], (7, 8, "unknown"))
        self.assertEqual(server.problems("m"), problems({"m": M}, "m"))
        with self.assertRaises(UnknownFile):
            server.close_file("n")
        server.open_file("n", N)
        self.assertEqual(server.problems("m"), [])

    def test_unknown_files(self):
        server = new()
        for question in QUESTIONS:
            with self.assertRaises(UnknownFile):
                ask(server, question, "o", 0)
        for action in (lambda: server.text("o"), lambda: server.close_file("o"), lambda: server.edit("o", (0, 9999, "\t")),
                       lambda: server.rename("o", 0, "if"), lambda: server.move("o", 0, "o"),
                       lambda: server.extract("o", 0, 1, "if"), lambda: server.inline("o", 0),
                       lambda: server.reorder("o", 0, []), lambda: server.drop_parameter("o", 0, 0),
                       lambda: server.organise("o")):
            with self.assertRaises(UnknownFile):
                action()
        self.assertEqual(server.program(), {"m": M, "n": N})

    def test_unknown_files_come_before_limits(self):
        server = new()
        server.limit(0)
        for question in QUESTIONS:
            with self.assertRaises(UnknownFile):
                ask(server, question, "o", 0)


class QuestionTest(unittest.TestCase):
    def test_problems(self):
        server = Server({"m": "def f() = 1 + True + x\n", "n": ""})
        self.assertEqual(server.problems("m"), [(14, 18, "kind"), (21, 22, "unknown")])
        self.assertEqual(server.problems("n"), [])

    def test_outline(self):
        self.assertEqual(new().outline("m"), [("P", "data", 23), ("T", "trait", 45), ("m", "method", 52),
                                              ("f", "def", at(M, "f[U")), ("g", "def", at(M, "g(p")),
                                              ("h", "def", at(M, "h()")), ("k", "def", at(M, "k(a"))])
        self.assertEqual(new().outline("n"), [("D", "data", 6), ("area", "def", 20)])
        server = Server({"m": "# a\ndef f() = 1\ndata f()\nimport n: g\ndef h(\ntrait Q with f(a): X\n"})
        self.assertEqual(server.outline("m"), [("f", "def", 8)])
        self.assertEqual(Server({"m": ""}).outline("m"), [])

    def check(self, module, start, end, symbol, definition):
        server = new()
        for offset in range(start, end):
            self.assertEqual(server.symbol_at(module, offset), symbol)
            self.assertEqual(server.definition(module, offset), definition)
        self.assertNotEqual(server.symbol_at(module, end), symbol)

    def test_symbols_and_definitions(self):
        self.check("m", at(M, "area"), at(M, "area") + 4, ("item", "n", "area"), ("n", 20, 24))
        self.check("m", at(M, "D)"), at(M, "D)") + 1, ("item", "n", "D"), ("n", 6, 7))
        self.check("m", at(M, "x + by"), at(M, "x + by") + 1, ("field", "m", "P", "x"), ("m", 25, 26))
        self.check("m", at(M, "z +"), at(M, "z +") + 1, ("field", "n", "D", "z"), ("n", 8, 9))
        self.check("m", at(M, "by\n"), at(M, "by\n") + 2, ("local", "m", 2, 21), ("m", 60, 62))
        self.check("m", at(M, "self *"), at(M, "self *") + 4, ("local", "m", 2, 15), ("m", 54, 58))
        self.check("m", at(M, "U,"), at(M, "U,") + 1, ("local", "m", 5, 6), ("m", at(M, "U: T"), at(M, "U: T") + 1))
        self.check("m", at(M, "q.y"), at(M, "q.y") + 1, ("local", "m", 7, 14), ("m", at(M, "q ="), at(M, "q =") + 1))
        self.check("m", at(M, "m(3"), at(M, "m(3") + 1, ("item", "m", "m"), ("m", 52, 53))
        self.check("m", at(M, "Int"), at(M, "Int") + 3, ("builtin", "Int"), None)
        self.check("m", 7, 8, ("module", "n"), None)
        self.check("n", 20, 24, ("item", "n", "area"), ("n", 20, 24))

    def test_uses_before_the_declaration(self):
        program = {"m": "import n: g\ndef f(d: D) = h(g(d)) + d.x\ndef h(a: Int) = a\ndata D(x: Int)\n",
                   "n": "import m: D\ndef g(d: D) = k(d)\ndef k(d: D) = d.x\n"}
        server = Server(program)
        for module, part, goal, mark in (("m", "h(g", "m", "h(a"), ("m", "D)", "m", "D(x"), ("m", "x\n", "m", "x: Int"),
                                         ("n", "k(d)", "n", "k(d:"), ("n", "D)", "m", "D(x"), ("n", "x\n", "m", "x: Int")):
            start = at(program[goal], mark)
            self.assertEqual(server.definition(module, at(program[module], part)), (goal, start, start + 1), part)

    def test_offsets_of_no_symbol(self):
        server = new()
        for module, text in (("m", M), ("n", N)):
            starts = {}
            for start, end, symbol, _ in all_occurrences({"m": M, "n": N}, module):
                for offset in range(start, end):
                    starts[offset] = symbol
            for offset in range(len(text) + 1):
                self.assertEqual(server.symbol_at(module, offset), starts.get(offset))
                if offset not in starts:
                    self.assertIsNone(server.definition(module, offset))
                    self.assertEqual(server.uses(module, offset), [])

    def test_uses(self):
        server = new()
        uses = [("m", at(M, "area"), at(M, "area") + 4), ("m", at(M, "area(p"), at(M, "area(p") + 4), ("n", 20, 24)]
        for module, offset in (("m", at(M, "area(p") + 2), ("n", 20), ("n", 23)):
            self.assertEqual(server.uses(module, offset), uses)
        self.assertEqual(server.uses("n", 8), [("m", at(M, "z +"), at(M, "z +") + 1), ("m", at(M, "z else"), at(M, "z else") + 1),
                                               ("n", 8, 9), ("n", at(N, "z *"), at(N, "z *") + 1), ("n", len(N) - 1, len(N))])
        self.assertEqual(server.uses("m", 60), [("m", 60, 62), ("m", at(M, "by\n"), at(M, "by\n") + 2),
                                                ("m", at(M, "by\n", 1), at(M, "by\n", 1) + 2)])
        self.assertEqual(server.uses("m", 7), [("m", 7, 8)])
        self.assertEqual(len(server.uses("n", at(N, "Int"))), 7)

    def test_uses_of_parameters_in_other_modules(self):
        program = {"a": "import b: T\nimpl T for Int = s + by\n", "b": "trait T with m(s, by: Int): Int\n"}
        server = Server(program)
        self.assertEqual(server.uses("b", 18), [("a", 33, 35), ("b", 18, 20)])
        self.assertEqual(server.definition("a", 33), ("b", 18, 20))

    def test_doubled_and_unknown_names(self):
        server = Server({"m": "def f(a: Int, a: Int) = a + zz\ndef f() = 1\nimport m: q\n"})
        self.assertEqual([server.symbol_at("m", offset) for offset in (6, 14, 24, 28, 35)],
                         [("local", "m", 0, 6), None, ("local", "m", 0, 6), None, None])
        self.assertEqual(server.symbol_at("m", at(server.text("m"), "m: q")), ("module", "m"))
        self.assertIsNone(server.definition("m", 14))

    def test_kinds(self):
        server = new()
        start = at(M, "f(p, 1)")
        text = "f(p, 1) + p.y.z"
        kinds = {0: "Int", 1: "Int", 2: "P", 3: "P", 4: "Int", 5: "Int", 6: "Int", 7: "Int", 9: "Int", 10: "P", 11: "P",
                 12: "D", 13: "D", 14: "Int", 15: "Int"}
        for offset in kinds:
            self.assertEqual(server.kind_at("m", start + offset), kinds[offset], text[offset:])
        self.assertEqual(server.kind_at("m", at(M, "a, n)")), "U")
        self.assertEqual(server.kind_at("m", at(M, "< 2")), "Bool")
        for offset in (0, 4, 20, at(M, "def f") + 8, at(M, "= m(a"), at(M, "self.x") - 1):
            self.assertEqual(server.kind_at("m", offset), "")
        self.assertEqual(server.kind_at("n", len(N)), "Int")
        self.assertEqual(server.kind_at("n", 0), "")
        server = Server({"m": "def f() = zz\ndata f()\ndef f() = 1\ndef g() = f() + zz"})
        self.assertEqual(server.kind_at("m", 11), "?")
        self.assertEqual(server.kind_at("m", at(server.text("m"), "1")), "")
        self.assertEqual(server.kind_at("m", len(server.text("m"))), "?")

    def test_completions(self):
        server = new()
        scope = ["D", "P", "area", "f", "g", "h", "k", "m"]
        for offset in (0, 3, at(M, "def f"), at(M, "impl T for I"), len(M)):
            self.assertEqual(server.completions("m", offset), scope)
        self.assertEqual(server.completions("m", at(M, "self.x")), sorted(scope + ["self", "by"]))
        self.assertEqual(server.completions("m", at(M, "m(a, n)")), sorted(scope + ["a", "n"]))
        self.assertEqual(server.completions("m", at(M, "q.y")), sorted(scope + ["q"]))
        self.assertEqual(server.completions("m", at(M, "P(1, D")), scope)
        self.assertEqual(server.completions("m", at(M, "x + 1")), sorted(scope + ["a", "x"]))
        self.assertEqual(server.completions("n", 0), ["D", "area"])
        self.assertEqual(server.completions("n", len(N)), ["D", "area", "d"])
        server = Server({"m": "def f(f: Int) = f\n", "n": "", "o": " x\n"})
        self.assertEqual(server.completions("m", 16), ["f"])
        self.assertEqual((server.completions("n", 0), server.completions("o", 2)), ([], []))

    def test_completions_in_void_items(self):
        text = "data P()\ndef P(a: Int) = let x = a in x\ndef q(c: Int) = c\n"
        server = Server({"m": text})
        for offset in range(at(text, "def q") + 1):
            self.assertEqual(server.completions("m", offset), ["P", "q"])
        self.assertEqual(server.completions("m", at(text, "c\n")), ["P", "c", "q"])
        # The item has locals as soon as nothing else holds its name.
        server.edit("m", (5, 6, "Q"))
        self.assertEqual(server.completions("m", at(text, "x\n")), ["P", "Q", "a", "q", "x"])
        server.undo()
        self.assertEqual(server.completions("m", at(text, "x\n")), ["P", "q"])

    def test_completions_at_the_ends_of_chunks(self):
        server = Server({"m": "def f(a: Int) = a\ndef g(b: Int) = b"})
        text = server.text("m")
        self.assertEqual(server.completions("m", 17), ["a", "f", "g"])
        self.assertEqual(server.completions("m", 18), ["f", "g"])
        self.assertEqual(server.completions("m", len(text)), ["b", "f", "g"])


class StepsTest(unittest.TestCase):
    def test_edits(self):
        server = Server({"m": "abc", "n": ""})
        server.edit("m", (1, 2, "xy"))
        server.edit("n", (0, 0, "def f() = 1\n"))
        self.assertEqual(server.program(), {"m": "axyc", "n": "def f() = 1\n"})
        self.assertEqual(server.outline("n"), [("f", "def", 4)])

    def test_wrong_edits_change_nothing(self):
        server = Server({"m": "abc"})
        server.edit("m", (0, 0, "x"))
        server.edit("m", (0, 0, "y"))
        server.undo()
        for edit in ((2, 1, ""), (0, 5, ""), (-1, 0, ""), (0, 0, "\t"), (0, 0, "x" * 4000), (0, 0, chr(37))):
            with self.assertRaises(InvalidEdit):
                server.edit("m", edit)
        for action in (lambda: server.close_file("n"), lambda: server.open_file("m", ""), lambda: server.open_file("if", ""),
                       lambda: server.edit("n", (0, 0, "")), lambda: server.rename("m", 0, "a"),
                       lambda: server.rename("n", 0, "a")):
            with self.assertRaises((UnknownFile, InvalidEdit, FileExists, Refused)):
                action()
        self.assertEqual(server.text("m"), "xabc")
        server.redo()
        self.assertEqual(server.text("m"), "yxabc")
        server.undo()
        server.undo()
        self.assertEqual(server.text("m"), "abc")
        with self.assertRaises(NothingToUndo):
            server.undo()

    def test_undo_and_redo(self):
        server = Server({"m": "", "n": ""})
        for action in (server.undo, server.redo):
            with self.assertRaises(NothingToUndo):
                action()
        texts = [server.program()]
        for number in range(5):
            server.edit("mn"[number % 2], (0, 0, str(number)))
            texts.append(server.program())
        with self.assertRaises(NothingToUndo):
            server.redo()
        for number in (4, 3, 2):
            server.undo()
            self.assertEqual(server.program(), texts[number])
        for number in (3, 4):
            server.redo()
            self.assertEqual(server.program(), texts[number])
        server.undo()
        self.assertEqual(server.program(), texts[3])
        server.edit("m", (0, 0, "x"))
        with self.assertRaises(NothingToUndo):
            server.redo()
        self.assertEqual(server.text("m"), "x20")
        for number in (3, 2, 1, 0):
            server.undo()
            self.assertEqual(server.program(), texts[number])
        with self.assertRaises(NothingToUndo):
            server.undo()

    def test_edits_that_change_nothing_are_steps(self):
        server = Server({"m": "abc"})
        server.edit("m", (0, 1, ""))
        server.edit("m", (1, 2, "c"))
        server.undo()
        self.assertEqual(server.text("m"), "bc")
        server.undo()
        self.assertEqual(server.text("m"), "abc")
        with self.assertRaises(NothingToUndo):
            server.undo()

    def test_opening_and_closing_forgets_the_steps(self):
        for way in (lambda server: server.open_file("o", ""), lambda server: server.close_file("n")):
            server = Server({"m": "", "n": ""})
            server.edit("m", (0, 0, "a"))
            server.edit("m", (0, 0, "b"))
            server.undo()
            way(server)
            for action in (server.undo, server.redo):
                with self.assertRaises(NothingToUndo):
                    action()
            self.assertEqual(server.text("m"), "a")

    def test_changes_are_steps(self):
        server = new()
        self.assertIsNone(server.rename("m", at(M, "area"), "surface"))
        self.assertNotIn("area", server.text("m") + server.text("n"))
        self.assertIn("surface", server.text("n"))
        renamed = server.program()
        # A change that changes nothing is a step, too.
        self.assertIsNone(server.organise("n"))
        self.assertEqual(server.program(), renamed)
        server.undo()
        self.assertEqual(server.program(), renamed)
        server.undo()
        self.assertEqual(server.program(), {"m": M, "n": N})
        server.redo()
        self.assertEqual(server.program(), renamed)
        server.redo()
        with self.assertRaises(NothingToUndo):
            server.redo()
        server.undo()
        server.rename("n", 20, "area")
        self.assertEqual(server.program(), {"m": M, "n": N})
        with self.assertRaises(NothingToUndo):
            server.redo()

    def test_each_change(self):
        steps = [lambda server: server.rename("m", at(M, "area"), "size"), lambda server: server.move("n", 6, "m"),
                 lambda server: server.extract("m", at(M, "p.y.z"), at(M, "p.y.z") + 5, "deep"),
                 lambda server: server.inline("m", at(M, "q.y")), lambda server: server.reorder("m", at(M, "f(p"), [1, 0]),
                 lambda server: server.organise("m"),
                 lambda server: server.drop_parameter("o", 4, 0)]
        for number, step in enumerate(steps):
            server = Server({"m": M, "n": N, "o": "def f(a: Int) = 1\n"})
            before = server.program()
            self.assertIsNone(step(server))
            if number != 5:
                self.assertNotEqual(server.program(), before)
            self.assertEqual([server.problems(module) for module in server.modules()], [[], [], []])
            after = server.program()
            server.undo()
            self.assertEqual(server.program(), before)
            server.redo()
            self.assertEqual(server.program(), after)

    def test_refused_changes(self):
        server = new()
        server.edit("m", (0, 0, "# x\n"))
        server.edit("m", (0, 4, ""))
        server.undo()
        before = server.program()
        for action in (lambda: server.rename("m", 0, "x"), lambda: server.move("m", 0, "n"), lambda: server.organise("q"),
                       lambda: server.extract("m", 0, 1, "x"), lambda: server.inline("m", 0),
                       lambda: server.reorder("m", 0, []), lambda: server.drop_parameter("m", 0, 0)):
            with self.assertRaises((Refused, UnknownFile)):
                action()
        self.assertEqual(server.program(), before)
        server.redo()
        self.assertEqual(server.text("m"), M)


class LimitTest(unittest.TestCase):
    def test_the_same_question_twice(self):
        for question in QUESTIONS:
            server = new()
            self.assertEqual(server.computations(), 0)
            offset = at(M, "q.y")
            first = ask(server, question, "m", offset)
            self.assertGreater(server.computations(), 0)
            self.assertEqual(ask(server, question, "m", offset), first)
            self.assertEqual(server.computations(), 0)
            server.edit("n", (0, 0, "\n"))
            ask(server, question, "m", offset)
            server.computations()
            self.assertEqual(ask(server, question, "m", offset), first)
            self.assertEqual(server.computations(), 0)

    def test_forget(self):
        server = new()
        server.problems("m")
        many = server.computations()
        server.forget()
        self.assertEqual(server.problems("m"), [])
        self.assertEqual(server.computations(), many)

    def test_an_edit_leaves_much_as_it_is(self):
        server = new()
        server.problems("m")
        many = server.computations()
        server.edit("m", (at(M, "3 do"), at(M, "3 do") + 1, "4"))
        self.assertEqual(server.problems("m"), [])
        self.assertLess(server.computations(), many // 2)

    def test_no_computations(self):
        for question in QUESTIONS:
            server = new()
            server.limit(0)
            with self.assertRaises(Cancelled):
                ask(server, question, "m", at(M, "q.y"))
            self.assertEqual(server.computations(), 0)
            server.limit(None)
            answer = ask(server, question, "m", at(M, "q.y"))
            server.limit(0)
            self.assertEqual(ask(server, question, "m", at(M, "q.y")), answer)

    def test_each_limit(self):
        for question in QUESTIONS:
            right = ask(new(), question, "m", at(M, "q.y"))
            cut = 0
            for count in list(range(0, 60)) + [200, 400]:
                server = new()
                server.limit(count)
                try:
                    self.assertEqual(ask(server, question, "m", at(M, "q.y")), right)
                except Cancelled:
                    cut += 1
                self.assertLessEqual(server.computations(), count)
                server.limit(None)
                self.assertEqual(ask(server, question, "m", at(M, "q.y")), right)
            self.assertGreater(cut, 5)

    def test_going_on(self):
        for question in QUESTIONS:
            server = new()
            right = ask(new(), question, "m", at(M, "q.y"))
            for _ in range(200):
                server.limit(20)
                try:
                    answer = ask(server, question, "m", at(M, "q.y"))
                    break
                except Cancelled:
                    self.assertGreater(server.computations(), 0)
            self.assertEqual(answer, right)

    def test_everything_else_is_not_limited(self):
        server = new()
        server.limit(0)
        server.edit("m", (0, 0, "# x\n"))
        server.undo()
        server.redo()
        server.undo()
        server.rename("n", 20, "size")
        server.organise("m")
        server.open_file("o", "")
        server.close_file("o")
        self.assertEqual(server.computations(), 0)
        self.assertIn("size", server.text("m"))
        with self.assertRaises(Cancelled):
            server.problems("m")

    def test_changes_compute_without_the_keeper(self):
        server = new()
        server.rename("n", 20, "size")
        self.assertEqual(server.computations(), 0)


class LongTest(unittest.TestCase):
    def test_long_chains_of_calls(self):
        names = ["q" + letter + other for letter in "abcdefghij" for other in "abcdefghijklmnopqrstuv"]
        program = {}
        for number in range(6):
            head = "import m%d: z%d\n" % (number + 1, number + 1) if number < 5 else ""
            rows = ["def %s()=%s()\n" % pair for pair in zip(names, names[1:])]
            last = "z%d()" % (number + 1) if number < 5 else "1"
            program["m%d" % number] = (head + "def z%d()=%s()\n" % (number, names[0]) + "".join(rows)
                                       + "def %s()=%s\n" % (names[-1], last))
        server = Server(program)
        start = at(program["m0"], "z0()")
        self.assertEqual(server.kind_at("m0", start + 6), "Int")
        text = program["m5"]
        server.edit("m5", (len(text) - 2, len(text) - 1, "True"))
        self.assertEqual(server.kind_at("m0", start + 6), "Bool")
        server.edit("m5", (len(text) - 2, len(text) + 2, "z5()"))
        self.assertEqual(server.kind_at("m0", start + 6), "?")
        self.assertEqual(len(server.problems("m5")), len(names) + 1)
        server.undo()
        server.undo()
        self.assertEqual(server.problems("m0"), [])
        for question in QUESTIONS:
            self.assertEqual(ask(Server(program), question, "m0", start + 6), ask(server, question, "m0", start + 6))


class AnyStepsTest(unittest.TestCase):
    """After any steps every answer is the one that a new server gives for the same texts."""

    def random_edit(self, chance, program):
        module = chance.choice(sorted(program))
        text = program[module]
        if chance.random() < 0.6:
            other = spoiled(chance, program, 1)
            if other != program:
                module = [name for name in program if other[name] != program[name]][0]
                return module, (0, len(program[module]), other[module])
        start = chance.randrange(len(text) + 1)
        end = min(len(text), start + chance.choice([0, 0, 1, 3, 40]))
        return module, (start, end, chance.choice(["", " ", "\n", "x", "def q() = 1\n", "# ", "(", "1", "\ndata D()\n"]))

    def step(self, chance, server, spare):
        program = server.program()
        way = chance.choice(["edit", "edit", "edit", "undo", "redo", "change", "limit", "forget", "file"])
        if way == "edit" and program:
            server.edit(*self.random_edit(chance, program))
        elif way == "undo":
            server.undo()
        elif way == "redo":
            server.redo()
        elif way == "limit":
            server.limit(chance.choice([0, 1, 5, 15, 30, 60, None]))
        elif way == "forget" and chance.random() < 0.3:
            server.forget()
        elif way == "file" and chance.random() < 0.4:
            if chance.random() < 0.5 and program:
                server.close_file(chance.choice(sorted(program)))
            else:
                module = chance.choice(sorted(spare))
                server.open_file(module, spare[module])
        elif way == "change" and program:
            module = chance.choice(sorted(program))
            offset = chance.randrange(len(program[module]) + 1)
            chance.choice([lambda: server.rename(module, offset, chance.choice(WORDS)), lambda: server.organise(module),
                           lambda: server.inline(module, offset), lambda: server.reorder(module, offset, [0]),
                           lambda: server.move(module, offset, chance.choice(sorted(program)))])()

    def compare(self, chance, server, count):
        program = server.program()
        fresh = Server(program)
        cut = 0
        for _ in range(count):
            if not program:
                return 0
            module = chance.choice(sorted(program))
            offset = chance.randrange(len(program[module]) + 1)
            question = chance.choice(QUESTIONS)
            try:
                answer = ask(server, question, module, offset)
            except Cancelled:
                cut += 1
                continue
            self.assertEqual(answer, ask(fresh, question, module, offset), (program, question, module, offset))
            server.computations()
            self.assertEqual(ask(server, question, module, offset), answer)
            self.assertEqual(server.computations(), 0)
        return cut

    def test_like_a_new_server(self):
        chance = random.Random(21)
        cut = 0
        for _ in range(30):
            program = chance.choice([random_program, wild_program])(chance)
            spare = {**wild_program(chance), **random_program(chance)}
            server = Server(program)
            for _ in range(25):
                try:
                    self.step(chance, server, spare)
                except (Refused, NothingToUndo, InvalidEdit, FileExists):
                    pass
                cut += self.compare(chance, server, 3)
            server.limit(None)
            self.compare(chance, server, 20)
        self.assertGreater(cut, 100)


if __name__ == "__main__":
    unittest.main()
