"""Points 72 to 75: sessions."""

import random
import unittest

from samenames.errors import Cancelled, InvalidEdit, UnknownFile
from samenames.server import Server
from samenames.session import Session
from samenames.texts import apply_edit
from tests.helpers import at
from tests.programs import random_program, spoiled

TEXT = "data P(x: Int)\ndef f(a: Int) = let p = P(a) in p.x\ndef g() = f(1)\n"
QUESTIONS = ["problems", "outline", "symbol", "definition", "uses", "kind", "completions"]
GREAT = 10 ** 6


def answer(server, question, module, offset):
    """What a server answers to the question of a session."""
    if question in ("problems", "outline"):
        return getattr(server, question)(module)
    name = {"symbol": "symbol_at", "kind": "kind_at"}.get(question, question)
    return getattr(server, name)(module, offset)


def ask_all(session, module, offset, first=1):
    """Ask all questions about an offset."""
    for number, question in enumerate(QUESTIONS):
        session.receive(("ask", first + number, question, module, offset))


class MessagesTest(unittest.TestCase):
    def worked(self, session, *messages):
        """What is told when some messages were taken and handled."""
        for message in messages:
            session.receive(message)
        self.assertIs(session.work(GREAT), True)
        self.assertEqual(session.waiting(), 0)
        return session.told()

    def test_a_new_session(self):
        program = {"m": TEXT, "n": ""}
        session = Session(program)
        program["m"] = ""
        self.assertEqual(session.program(), {"m": TEXT, "n": ""})
        session.program().clear()
        self.assertEqual(session.program(), {"m": TEXT, "n": ""})
        self.assertEqual((session.version("m"), session.version("n"), session.waiting(), session.told()), (0, 0, 0, []))
        self.assertIs(session.work(1), True)
        self.assertEqual(session.told(), [])
        self.assertEqual(Session({}).program(), {})

    def test_invalid_programs(self):
        for program in ({"m%d" % number: "" for number in range(7)}, {"1": ""}, {"def": ""}, {"": ""}, {"m": "x" * 4001},
                        {"m": "\t"}, {"m": "a%"}):
            with self.assertRaises(InvalidEdit):
                Session(program)
        self.assertEqual(len(Session({"m%d" % number: "" for number in range(6)}).program()), 6)

    def test_each_question(self):
        server = Server({"m": TEXT, "n": "x"})
        for offset in range(len(TEXT) + 1):
            session = Session({"m": TEXT, "n": "x"})
            ask_all(session, "m", offset)
            self.assertEqual(session.waiting(), 7)
            self.assertIs(session.work(GREAT), True)
            expected = [("answer", 1 + number, answer(server, question, "m", offset))
                        for number, question in enumerate(QUESTIONS)]
            self.assertEqual(session.told(), expected)
            self.assertEqual(session.told(), [])

    def test_some_answers(self):
        session = Session({"m": TEXT})
        offset = at(TEXT, "p.x")
        ask_all(session, "m", offset, 10)
        session.work(GREAT)
        told = [row[2] for row in session.told()]
        local = ("local", "m", 1, at(TEXT, "p =") - at(TEXT, "def f"))
        self.assertEqual(told, [[], [("P", "data", 5), ("f", "def", 19), ("g", "def", at(TEXT, "g()"))], local,
                                ("m", at(TEXT, "p ="), at(TEXT, "p =") + 1),
                                [("m", at(TEXT, "p ="), at(TEXT, "p =") + 1), ("m", offset, offset + 1)], "P",
                                ["P", "a", "f", "g", "p"]])

    def test_questions_that_are_gone(self):
        session = Session({"m": TEXT})
        ask_all(session, "zz", 0)
        session.work(GREAT)
        self.assertEqual(session.told(), [("answer", number, "gone") for number in range(1, 8)])
        ask_all(session, "m", len(TEXT) + 1)
        session.work(GREAT)
        told = session.told()
        self.assertEqual([row[2] == "gone" for row in told], [False, False] + [True] * 5)
        ask_all(session, "m", len(TEXT))
        session.work(GREAT)
        self.assertNotIn("gone", [row[2] for row in session.told()])

    def test_an_offset_that_is_beyond_the_text_when_its_turn_comes(self):
        session = Session({"m": TEXT})
        told = self.worked(session, ("ask", 1, "kind", "m", 20), ("edit", "m", (15, len(TEXT), ""), 1),
                           ("ask", 2, "kind", "m", 20), ("edit", "m", (0, 15, TEXT), 2), ("ask", 3, "kind", "m", 40))
        self.assertEqual(told, [("answer", 1, ""), ("accepted", "m", 1), ("answer", 2, "gone"), ("accepted", "m", 2),
                                ("answer", 3, "P")])

    def test_edits(self):
        session = Session({"m": "abc", "n": ""})
        self.assertEqual(self.worked(session, ("edit", "m", (3, 3, "d"), 1)), [("accepted", "m", 1)])
        self.assertEqual((session.program(), session.version("m"), session.version("n")), ({"m": "abcd", "n": ""}, 1, 0))
        self.assertEqual(self.worked(session, ("edit", "m", (0, 0, ""), 2), ("edit", "n", (0, 0, "x"), 1)),
                         [("accepted", "m", 2), ("accepted", "n", 1)])
        self.assertEqual((session.program(), session.version("m"), session.version("n")), ({"m": "abcd", "n": "x"}, 2, 1))

    def test_edits_that_are_refused(self):
        session = Session({"m": "abc", "n": ""})
        # A wrong version, a module that is not there, and edits that do not fit.
        for message in (("edit", "m", (0, 0, "x"), 0), ("edit", "m", (0, 0, "x"), 2), ("edit", "m", (0, 0, "x"), -1),
                        ("edit", "zz", (0, 0, "x"), 1), ("edit", "m", (2, 1, "x"), 1), ("edit", "m", (0, 4, "x"), 1),
                        ("edit", "m", (-1, 1, "x"), 1), ("edit", "m", (0, 0, "\t"), 1), ("edit", "n", (0, 0, "x" * 4001), 1)):
            self.assertEqual(self.worked(session, message), [("refused", message[1], message[3])])
            self.assertEqual((session.program(), session.version("m")), ({"m": "abc", "n": ""}, 0))
        # The version that counts is that of the moment at which the turn of the edit comes.
        told = self.worked(session, ("edit", "m", (0, 0, "x"), 1), ("edit", "m", (9, 9, "y"), 2), ("edit", "m", (0, 0, "z"), 2),
                           ("edit", "m", (0, 0, "w"), 2), ("edit", "m", (0, 0, "v"), 3))
        self.assertEqual(told, [("accepted", "m", 1), ("refused", "m", 2), ("accepted", "m", 2), ("refused", "m", 2),
                                ("accepted", "m", 3)])
        self.assertEqual((session.program()["m"], session.version("m")), ("vzxabc", 3))

    def test_unknown_modules_have_no_version(self):
        session = Session({"m": ""})
        session.receive(("edit", "n", (0, 0, ""), 1))
        session.work(1)
        for module in ("n", "zz", ""):
            with self.assertRaises(UnknownFile):
                session.version(module)

    def test_nothing_happens_before_its_turn(self):
        session = Session({"m": "abc"})
        session.receive(("edit", "m", (0, 3, "x"), 1))
        session.receive(("ask", 1, "problems", "m", 0))
        self.assertEqual((session.program(), session.version("m"), session.waiting(), session.told()), ({"m": "abc"}, 0, 2, []))
        session.work(GREAT)
        self.assertEqual((session.program(), session.version("m"), session.waiting()), ({"m": "x"}, 1, 0))

    def test_questions_see_the_edits_before_them(self):
        session = Session({"m": "def f() = 1\n"})
        told = self.worked(session, ("ask", 1, "outline", "m", 0), ("edit", "m", (4, 5, "g"), 1), ("ask", 2, "outline", "m", 0),
                           ("edit", "m", (0, 0, "x"), 7), ("ask", 3, "outline", "m", 0))
        self.assertEqual(told, [("answer", 1, [("f", "def", 4)]), ("accepted", "m", 1), ("answer", 2, [("g", "def", 4)]),
                                ("refused", "m", 7), ("answer", 3, [("g", "def", 4)])])

    def test_answers_are_new_lists(self):
        session = Session({"m": TEXT})
        first = self.worked(session, ("ask", 1, "outline", "m", 0))
        first[0][2].clear()
        self.assertEqual(len(self.worked(session, ("ask", 2, "outline", "m", 0))[0][2]), 3)


class CancelTest(unittest.TestCase):
    def test_questions_that_wait(self):
        session = Session({"m": TEXT})
        ask_all(session, "m", 0)
        session.receive(("cancel", 3))
        # It takes effect at once, ahead of what waits.
        self.assertEqual((session.waiting(), session.told()), (6, [("cancelled", 3)]))
        session.receive(("cancel", 7))
        session.receive(("cancel", 1))
        session.work(GREAT)
        told = session.told()
        self.assertEqual(told[:2], [("cancelled", 7), ("cancelled", 1)])
        self.assertEqual([row[:2] for row in told[2:]], [("answer", 2), ("answer", 4), ("answer", 5), ("answer", 6)])

    def test_questions_that_do_not_wait(self):
        session = Session({"m": TEXT})
        session.receive(("cancel", 1))
        session.receive(("ask", 1, "problems", "m", 0))
        self.assertEqual((session.waiting(), session.told()), (1, []))
        session.work(GREAT)
        # It is answered, though what is told was not fetched yet.
        session.receive(("cancel", 1))
        self.assertEqual(session.told(), [("answer", 1, [])])
        session.receive(("cancel", 1))
        session.receive(("cancel", 2))
        self.assertEqual((session.told(), session.waiting()), ([], 0))

    def test_twice(self):
        session = Session({"m": TEXT})
        session.receive(("ask", 5, "problems", "m", 0))
        session.receive(("cancel", 5))
        session.receive(("cancel", 5))
        self.assertEqual(session.told(), [("cancelled", 5)])
        self.assertIs(session.work(1), True)

    def test_edits_stay(self):
        session = Session({"m": "", "n": ""})
        session.receive(("edit", "m", (0, 0, "x"), 1))
        session.receive(("ask", 1, "problems", "m", 0))
        session.receive(("edit", "n", (0, 0, "y"), 1))
        session.receive(("cancel", "m"))
        session.receive(("cancel", 1))
        self.assertEqual(session.waiting(), 2)
        session.work(1)
        self.assertEqual(session.told(), [("cancelled", 1), ("accepted", "m", 1), ("accepted", "n", 1)])

    def test_a_question_that_was_cut_off(self):
        session = Session({"m": TEXT})
        session.receive(("ask", 1, "problems", "m", 0))
        session.receive(("edit", "m", (0, 0, "# a\n"), 1))
        self.assertIs(session.work(1), False)
        self.assertEqual((session.waiting(), session.told(), session.version("m")), (2, [], 0))
        session.receive(("cancel", 1))
        self.assertIs(session.work(1), True)
        self.assertEqual(session.told(), [("cancelled", 1), ("accepted", "m", 1)])


class Model:
    """Sessions once more; the server that it limits counts like that of a session."""

    def __init__(self, program):
        self.texts, self.versions = dict(program), {module: 0 for module in program}
        self.server = Server(program)
        self.queue, self.news, self.times = [], [], 1

    def receive(self, message):
        if message[0] == "cancel":
            for other in list(self.queue):
                if other[0] == "ask" and other[1] == message[1]:
                    self.queue.remove(other)
                    self.news.append(("cancelled", message[1]))
        else:
            self.queue.append(message)

    def work(self, count):
        self.server.limit(self.times * count)
        self.server.computations()
        cut = False
        while self.queue and not cut:
            message = self.queue[0]
            if message[0] == "edit":
                self.edit(*message[1:])
                del self.queue[0]
                continue
            _, number, question, module, offset = message
            try:
                if module not in self.texts or question not in QUESTIONS[:2] and offset > len(self.texts[module]):
                    found = "gone"
                else:
                    found = answer(self.server, question, module, offset)
                    fresh = answer(Server(self.texts), question, module, offset)
                    assert found == fresh, (found, fresh)
                self.news.append(("answer", number, found))
                del self.queue[0]
            except Cancelled:
                cut = True
        if self.server.computations():
            self.times = 1
        elif cut:
            self.times = 2 * self.times
        return self.queue == []

    def edit(self, module, edit, version):
        try:
            good = module in self.texts and version == self.versions[module] + 1
            if good:
                self.texts[module] = apply_edit(self.texts[module], edit)
                self.server.edit(module, edit)
                self.versions[module] += 1
        except InvalidEdit:
            good = False
        self.news.append(("accepted" if good else "refused", module, version))

    def told(self):
        found, self.news = self.news, []
        return found


class WorkTest(unittest.TestCase):
    def test_in_small_pieces(self):
        for question in QUESTIONS:
            for count in (1, 2, 3, 7, 20):
                session = Session({"m": TEXT})
                session.receive(("ask", 1, question, "m", 40))
                pieces = 1
                while not session.work(count):
                    self.assertEqual((session.told(), session.waiting()), ([], 1))
                    pieces += 1
                    self.assertLess(pieces, 300)
                expected = answer(Server({"m": TEXT}), question, "m", 40)
                self.assertEqual(session.told(), [("answer", 1, expected)])
                if count == 1:
                    self.assertGreater(pieces, 3)

    def test_twice_as_much_each_time(self):
        # How many computations must begin until the first one ends.
        needed = 1
        while True:
            server = Server({"m": TEXT})
            server.limit(needed)
            with self.assertRaises(Cancelled):
                server.problems("m")
            if server.computations() > 0:
                break
            needed += 1
        self.assertGreater(needed, 2)
        session, model = Session({"m": TEXT}), Server({"m": TEXT})
        session.receive(("ask", 1, "problems", "m", 0))
        times, row = 1, []
        while True:
            model.limit(times)
            try:
                model.problems("m")
                break
            except Cancelled:
                self.assertIs(session.work(1), False)
            ended = model.computations()
            row.append(ended)
            times = 1 if ended else 2 * times
        self.assertIs(session.work(1), True)
        # At first nothing ends with 1, 2, 4 .. computations, then something, and then it starts with 1 again.
        zeros = row.index([ended for ended in row if ended][0])
        self.assertTrue(2 ** (zeros - 1) < needed <= 2 ** zeros)
        self.assertEqual(len([ended for ended in row if ended]) > 1, True)

    def test_a_cut_off_is_needed_for_more(self):
        # Nothing was computed, but nothing was cut off either: the number stays as it is.
        session = Session({"m": TEXT})
        for _ in range(20):
            session.receive(("edit", "m", (0, 0, ""), session.version("m") + 1))
            self.assertIs(session.work(1), True)
        session.receive(("ask", 1, "problems", "m", 0))
        self.assertIs(session.work(1), False)
        self.assertEqual(len(session.told()), 20)

    def test_what_was_answered_needs_nothing_more(self):
        session = Session({"m": TEXT})
        session.receive(("ask", 1, "uses", "m", 20))
        session.work(GREAT)
        for number in range(2, 20):
            session.receive(("ask", number, "uses", "m", 20))
        self.assertIs(session.work(1), True)
        self.assertEqual(len(session.told()), 19)

    def test_later_messages_wait_for_what_was_cut_off(self):
        session = Session({"m": TEXT})
        session.receive(("ask", 1, "problems", "m", 0))
        session.receive(("edit", "m", (0, len(TEXT), "x"), 1))
        session.receive(("ask", 2, "outline", "m", 0))
        session.receive(("ask", 3, "kind", "zz", 0))
        told = []
        while not session.work(1):
            told += session.told()
            self.assertEqual(session.waiting(), 4 - len(told))
            self.assertEqual(session.version("m"), 0 if not told else 1)
        told += session.told()
        self.assertEqual(told, [("answer", 1, []), ("accepted", "m", 1), ("answer", 2, []), ("answer", 3, "gone")])

    def test_random_messages_like_the_model(self):
        chance = random.Random(81)
        seen = {}
        for number in range(60):
            program = spoiled(chance, random_program(chance, 500), number % 4)
            session, model = Session(program), Model(program)
            most = chance.choice([1, 3, 30, 300])
            numbers = 0
            for _ in range(60):
                way = chance.randrange(9)
                if way < 6:
                    numbers += 1
                    message = self.message(chance, model, program, numbers)
                    session.receive(message)
                    model.receive(message)
                else:
                    count = chance.randrange(1, most + 1)
                    self.assertEqual(session.work(count), model.work(count))
                self.same(session, model)
                if chance.random() < 0.3:
                    told = session.told()
                    self.assertEqual(told, model.told())
                    for row in told:
                        seen[row[0]] = seen.get(row[0], 0) + 1
            pieces = 0
            while not session.work(most):
                self.assertIs(model.work(most), False)
                pieces += 1
                self.assertLess(pieces, 5000)
            self.assertIs(model.work(most), True)
            self.same(session, model)
            self.assertEqual(session.told(), model.told())
            self.assertEqual(session.told(), [])
        for word in ("accepted", "refused", "answer", "cancelled"):
            self.assertGreater(seen[word], 20, word)

    def same(self, session, model):
        self.assertEqual((session.waiting(), session.program()), (len(model.queue), model.texts))
        self.assertEqual({module: session.version(module) for module in model.texts}, model.versions)

    def message(self, chance, model, program, number):
        module = chance.choice(sorted(program) + ["zz"] if chance.random() < 0.2 else sorted(program))
        length = len(model.texts.get(module, ""))
        way = chance.randrange(10)
        if way < 2:
            return ("cancel", chance.randrange(1, number + 3))
        if way < 5:
            coming = [row for row in model.queue if row[0] == "edit" and row[1] == module]
            version = model.versions.get(module, 0) + len(coming) + chance.choice([1, 1, 1, 1, 0, 2])
            start = chance.randrange(length + 1)
            end = chance.choice([start, start, min(start + 3, length), length + 5])
            return ("edit", module, (start, end, chance.choice(["", "x", " ", "\n", "(", "def f() = 1\n"])), version)
        offset = chance.choice([chance.randrange(length + 1), chance.randrange(length + 1), length, length + 1, length + 40])
        return ("ask", number, chance.choice(QUESTIONS), module, offset)


if __name__ == "__main__":
    unittest.main()
