"""Points 33 to 37: the keeper."""

import random
import unittest

from samenames.errors import Cancelled, CyclicKey, UnknownKey
from samenames.keeper import Keeper


class Model:
    """The points 33 to 36, written down as they stand, with a call for each key that is brought up to date."""

    def __init__(self, compute):
        self.compute, self.now, self.left = compute, 0, None
        self.inputs, self.entries, self.going, self.asking, self.ended = {}, {}, [], [], []

    def put(self, key, value):
        self.entries.pop(key, None)
        if key not in self.inputs or self.inputs[key][0] != value:
            self.now += 1
            self.inputs[key] = (value, self.now)

    def drop(self, key):
        if key not in self.inputs:
            raise UnknownKey()
        del self.inputs[key]
        self.now += 1

    def limit(self, count):
        self.left = count

    def forget(self, key):
        self.entries.pop(key, None)

    def forget_all(self):
        self.entries = {}

    def revision(self):
        return self.now

    def computed(self):
        ended, self.ended = self.ended, []
        return ended

    def kept(self):
        return list(self.entries)

    def changed(self, key):
        return self.inputs[key][1] if key in self.inputs else self.entries[key]["changed"]

    def bring(self, key):
        if key in self.inputs:
            return
        if key in self.going:
            raise CyclicKey()
        self.going.append(key)
        try:
            entry = self.entries.get(key)
            if entry is None:
                self.work_out(key)
            elif entry["checked"] != self.now:
                for other in entry["keys"]:
                    self.bring(other)
                    if self.changed(other) > entry["checked"]:
                        self.work_out(key)
                        break
                else:
                    entry["checked"] = self.now
        finally:
            self.going.pop()

    def work_out(self, key):
        if self.left == 0:
            raise Cancelled()
        if self.left is not None:
            self.left -= 1
        self.asking.append([])
        try:
            value = self.compute(self, key)
        finally:
            asked = self.asking.pop()
        old = self.entries.get(key)
        changed = old["changed"] if old is not None and old["value"] == value else self.now
        self.entries[key] = {"value": value, "keys": asked, "checked": self.now, "changed": changed}
        self.ended.append(key)

    def ask(self, key):
        if self.asking and key not in self.asking[-1]:
            self.asking[-1].append(key)
        self.bring(key)
        return self.inputs[key][0] if key in self.inputs else self.entries[key]["value"]


def sums(keeper, key):
    """A table of functions for the tests."""
    word = key[0]
    if word == "sum":
        return keeper.ask(("a",)) + keeper.ask(("b",))
    if word == "small":
        return keeper.ask(("sum",)) < 10
    if word == "choice":
        return keeper.ask(("b",)) if keeper.ask(("small",)) else keeper.ask(("c",))
    if word == "twice":
        return keeper.ask(("a",)) + keeper.ask(("b",)) + keeper.ask(("a",))
    if word == "down":
        return 0 if key[1] == 0 else keeper.ask(("down", key[1] - 1)) + keeper.ask(("a",))
    if word == "self":
        return keeper.ask(("self",))
    if word in ("ping", "pong"):
        other = {"ping": "pong", "pong": "ping"}[word]
        return keeper.ask((other,)) + 1 if keeper.ask(("a",)) else 7
    if word == "pair":
        return (keeper.ask(("a",)), "x", (True, None))
    if word == "above":
        return keeper.ask(("choice",)) + 1
    return 0


def new(**inputs):
    keeper = Keeper(sums)
    for name, value in inputs.items():
        keeper.put((name,), value)
    return keeper


class InputTest(unittest.TestCase):
    def test_revisions(self):
        keeper = new()
        self.assertEqual(keeper.revision(), 0)
        keeper.put(("a",), 1)
        self.assertEqual(keeper.revision(), 1)
        keeper.put(("a",), 1)
        self.assertEqual(keeper.revision(), 1)
        keeper.put(("a",), 2)
        self.assertEqual(keeper.revision(), 2)
        keeper.put(("b",), 2)
        self.assertEqual(keeper.revision(), 3)
        keeper.drop(("a",))
        self.assertEqual(keeper.revision(), 4)
        keeper.put(("a",), 2)
        self.assertEqual(keeper.revision(), 5)

    def test_values_that_are_equal(self):
        keeper = new()
        for value, revision in ((1, 1), (True, 1), (1, 1), (0, 2), (False, 2), ((1, (0, "x")), 3),
                                ((True, (False, "x")), 3), ((1, (0, "y")), 4), (None, 5), (None, 5), (0, 6),
                                ("", 7), ((), 8), ((), 8)):
            keeper.put(("a",), value)
            self.assertEqual(keeper.revision(), revision, value)
            self.assertEqual(keeper.ask(("a",)), value)

    def test_equal_values_keep_what_was_computed(self):
        keeper = new(a=1, b=2)
        self.assertEqual(keeper.ask(("sum",)), 3)
        keeper.put(("c",), 5)
        keeper.put(("a",), True)
        self.assertIs(keeper.ask(("a",)), True)
        self.assertEqual(keeper.computed(), [("sum",)])
        self.assertEqual(keeper.ask(("sum",)), 3)
        self.assertEqual(keeper.computed(), [])

    def test_inputs_are_not_computed(self):
        keeper = new(a=1, sum=50)
        keeper.limit(0)
        self.assertEqual((keeper.ask(("a",)), keeper.ask(("sum",))), (1, 50))
        self.assertEqual((keeper.computed(), keeper.kept()), ([], []))

    def test_unknown_keys(self):
        keeper = new(a=1, b=2)
        keeper.ask(("sum",))
        for key in (("sum",), ("c",), ("a", 1)):
            with self.assertRaises(UnknownKey):
                keeper.drop(key)
        self.assertEqual((keeper.revision(), keeper.kept()), (2, [("sum",)]))
        keeper.drop(("a",))
        with self.assertRaises(UnknownKey):
            keeper.drop(("a",))
        self.assertEqual(keeper.revision(), 3)

    def test_put_on_a_key_with_an_entry(self):
        keeper = new(a=1, b=2, c=9)
        self.assertEqual(keeper.ask(("choice",)), 2)
        self.assertEqual(sorted(keeper.kept()), [("choice",), ("small",), ("sum",)])
        keeper.put(("sum",), 20)
        self.assertEqual(sorted(keeper.kept()), [("choice",), ("small",)])
        keeper.computed()
        self.assertEqual(keeper.ask(("choice",)), 9)
        self.assertEqual(keeper.computed(), [("small",), ("choice",)])
        keeper.drop(("sum",))
        self.assertEqual(keeper.ask(("choice",)), 2)
        self.assertEqual(keeper.computed(), [("sum",), ("small",), ("choice",)])

    def test_put_of_the_value_that_was_computed(self):
        keeper = new(a=1, b=2)
        keeper.ask(("small",))
        keeper.computed()
        keeper.put(("sum",), 3)
        self.assertEqual(keeper.revision(), 3)
        self.assertTrue(keeper.ask(("small",)))
        self.assertEqual(keeper.computed(), [("small",)])

    def test_dropped_inputs_are_computed(self):
        keeper = new(a=1, b=2)
        self.assertEqual(keeper.ask(("sum",)), 3)
        keeper.drop(("b",))
        self.assertEqual(keeper.ask(("sum",)), 1)
        self.assertEqual(keeper.ask(("b",)), 0)
        self.assertEqual(sorted(keeper.kept()), [("b",), ("sum",)])
        keeper.put(("b",), 5)
        self.assertEqual(keeper.kept(), [("sum",)])
        self.assertEqual(keeper.ask(("sum",)), 6)


class EntryTest(unittest.TestCase):
    def test_computed(self):
        keeper = new(a=1, b=2, c=3)
        self.assertEqual(keeper.computed(), [])
        self.assertEqual(keeper.ask(("above",)), 3)
        self.assertEqual(keeper.computed(), [("sum",), ("small",), ("choice",), ("above",)])
        self.assertEqual(keeper.computed(), [])
        self.assertEqual(keeper.ask(("above",)), 3)
        self.assertEqual(keeper.computed(), [])
        self.assertEqual(keeper.ask(("pair",)), (1, "x", (True, None)))
        keeper.ask(("small",))
        self.assertEqual(keeper.computed(), [("pair",)])

    def test_the_lists_are_new(self):
        keeper = new(a=1, b=2)
        keeper.ask(("sum",))
        keeper.kept().clear()
        keeper.computed().append(("x",))
        self.assertEqual((keeper.kept(), keeper.computed()), ([("sum",)], []))

    def test_inputs_that_are_not_needed(self):
        keeper = new(a=1, b=2, c=3)
        keeper.ask(("choice",))
        keeper.computed()
        keeper.put(("c",), 4)
        self.assertEqual(keeper.ask(("choice",)), 2)
        self.assertEqual(keeper.computed(), [])

    def test_inputs_that_are_not_needed_any_more(self):
        keeper = new(a=1, b=2, c=3)
        keeper.ask(("choice",))
        keeper.put(("a",), 30)
        self.assertEqual(keeper.ask(("choice",)), 3)
        keeper.computed()
        # The value does not rest on b itself any more, but the sum does.
        keeper.put(("b",), 4)
        self.assertEqual(keeper.ask(("choice",)), 3)
        self.assertEqual(keeper.computed(), [("sum",), ("small",)])
        keeper.put(("c",), 6)
        self.assertEqual(keeper.ask(("choice",)), 6)
        self.assertEqual(keeper.computed(), [("choice",)])

    def test_keys_that_give_equal_values_again(self):
        keeper = new(a=1, b=2, c=3)
        keeper.ask(("above",))
        keeper.computed()
        keeper.put(("a",), 2)
        self.assertEqual(keeper.ask(("above",)), 3)
        self.assertEqual(keeper.computed(), [("sum",), ("small",)])
        keeper.put(("a",), 3)
        keeper.put(("b",), 1)
        self.assertEqual(keeper.ask(("small",)), True)
        self.assertEqual(keeper.computed(), [("sum",)])
        # The choice asked for b, too.
        self.assertEqual(keeper.ask(("above",)), 2)
        self.assertEqual(keeper.computed(), [("choice",), ("above",)])

    def test_a_value_that_went_and_came_again(self):
        keeper = new(a=1, b=2)
        keeper.ask(("small",))
        keeper.computed()
        keeper.put(("a",), 5)
        keeper.put(("a",), 1)
        self.assertTrue(keeper.ask(("small",)))
        self.assertEqual(keeper.computed(), [("sum",)])

    def test_other_keys_are_not_looked_at_behind_one_that_changed(self):
        def compute(keeper, key):
            if key[0] == "top":
                return keeper.ask(("low", 1)) + (keeper.ask(("low", 2)) if keeper.ask(("a",)) else 0)
            return keeper.ask(("x", key[1]))
        keeper = Keeper(compute)
        for key, value in ((("a",), 1), (("x", 1), 1), (("x", 2), 2)):
            keeper.put(key, value)
        self.assertEqual(keeper.ask(("top",)), 3)
        keeper.computed()
        keeper.put(("a",), 0)
        keeper.put(("x", 2), 5)
        self.assertEqual(keeper.ask(("top",)), 1)
        self.assertEqual(keeper.computed(), [("top",)])
        self.assertEqual(keeper.ask(("low", 2)), 5)
        self.assertEqual(keeper.computed(), [("low", 2)])

    def test_a_key_that_is_asked_twice(self):
        keeper = new(a=1, b=2)
        self.assertEqual(keeper.ask(("twice",)), 4)
        keeper.put(("b",), 3)
        self.assertEqual(keeper.ask(("twice",)), 5)
        keeper.computed()
        keeper.put(("c",), 3)
        self.assertEqual(keeper.ask(("twice",)), 5)
        self.assertEqual(keeper.computed(), [])

    def test_forget(self):
        keeper = new(a=1, b=2, c=3)
        keeper.ask(("above",))
        keeper.computed()
        keeper.forget(("sum",))
        keeper.forget(("sum",))
        keeper.forget(("nothing",))
        keeper.forget(("a",))
        self.assertEqual(keeper.ask(("a",)), 1)
        # What was checked in this revision needs nothing.
        self.assertEqual(keeper.ask(("above",)), 3)
        self.assertEqual(keeper.computed(), [])
        self.assertEqual(keeper.revision(), 3)
        # In the next one, what has no entry counts as changed.
        keeper.put(("d",), 3)
        self.assertEqual(keeper.ask(("above",)), 3)
        self.assertEqual(keeper.computed(), [("sum",), ("small",)])

    def test_forget_all(self):
        keeper = new(a=1, b=2, c=3)
        keeper.ask(("above",))
        keeper.computed()
        keeper.forget_all()
        self.assertEqual((keeper.kept(), keeper.revision()), ([], 3))
        self.assertEqual(keeper.ask(("above",)), 3)
        self.assertEqual(keeper.computed(), [("sum",), ("small",), ("choice",), ("above",)])

    def test_long_chains(self):
        keeper = new(a=1)
        for number in range(0, 3000, 50):
            keeper.ask(("down", number))
        keeper.put(("a",), 2)
        self.assertEqual(keeper.ask(("down", 2950)), 5900)
        keeper.put(("b",), 2)
        keeper.computed()
        self.assertEqual(keeper.ask(("down", 2950)), 5900)
        self.assertEqual(keeper.computed(), [])

    def test_chains_of_new_keys(self):
        self.assertEqual(new(a=1).ask(("down", 200)), 200)


class LimitTest(unittest.TestCase):
    def test_no_computations(self):
        keeper = new(a=1, b=2)
        keeper.limit(0)
        for _ in range(2):
            with self.assertRaises(Cancelled):
                keeper.ask(("sum",))
        self.assertEqual((keeper.kept(), keeper.computed()), ([], []))
        keeper.limit(1)
        self.assertEqual(keeper.ask(("sum",)), 3)
        # None is left now, but none is needed.
        self.assertEqual(keeper.ask(("sum",)), 3)
        with self.assertRaises(Cancelled):
            keeper.ask(("small",))

    def test_a_computation_that_was_cut_off_counts(self):
        keeper = new(a=1, b=2)
        for _ in range(3):
            keeper.limit(1)
            with self.assertRaises(Cancelled):
                keeper.ask(("small",))
            self.assertEqual(keeper.kept(), [])
        keeper.limit(2)
        self.assertTrue(keeper.ask(("small",)))

    def test_what_stays_kept(self):
        keeper = new(a=1, b=2, c=3)
        keeper.limit(3)
        with self.assertRaises(Cancelled):
            keeper.ask(("above",))
        self.assertEqual((keeper.kept(), keeper.computed()), ([], []))
        keeper.limit(2)
        keeper.ask(("small",))
        self.assertEqual(keeper.computed(), [("sum",), ("small",)])
        keeper.limit(1)
        with self.assertRaises(Cancelled):
            keeper.ask(("above",))
        keeper.limit(2)
        self.assertEqual(keeper.ask(("above",)), 3)
        self.assertEqual(keeper.computed(), [("choice",), ("above",)])

    def test_a_later_ask_goes_on(self):
        def compute(keeper, key):
            if key[0] == "all":
                return sum(keeper.ask(("part", number)) for number in range(5))
            return key[1]
        keeper = Keeper(compute)
        keeper.limit(3)
        with self.assertRaises(Cancelled):
            keeper.ask(("all",))
        self.assertEqual(keeper.computed(), [("part", 0), ("part", 1)])
        keeper.limit(3)
        with self.assertRaises(Cancelled):
            keeper.ask(("all",))
        self.assertEqual(keeper.computed(), [("part", 2), ("part", 3)])
        keeper.limit(3)
        self.assertEqual(keeper.ask(("all",)), 10)
        self.assertEqual(keeper.computed(), [("part", 4), ("all",)])

    def test_old_entries_stay_as_they_were(self):
        keeper = new(a=1, b=2, c=3)
        keeper.ask(("above",))
        keeper.computed()
        keeper.put(("a",), 20)
        keeper.limit(2)
        with self.assertRaises(Cancelled):
            keeper.ask(("above",))
        self.assertEqual(keeper.computed(), [("sum",), ("small",)])
        self.assertEqual(len(keeper.kept()), 4)
        keeper.put(("a",), 1)
        keeper.limit(2)
        # The small one was checked with another value, so the choice is computed although its old value is right.
        with self.assertRaises(Cancelled):
            keeper.ask(("choice",))
        self.assertEqual(keeper.computed(), [("sum",), ("small",)])
        keeper.limit(1)
        self.assertEqual(keeper.ask(("choice",)), 2)
        self.assertEqual(keeper.computed(), [("choice",)])
        keeper.limit(0)
        self.assertEqual(keeper.ask(("above",)), 3)

    def test_checking_is_no_computation(self):
        keeper = new(a=1, b=2, c=3)
        keeper.ask(("above",))
        keeper.put(("d",), 1)
        keeper.limit(0)
        self.assertEqual(keeper.ask(("above",)), 3)

    def test_the_limit_is_ended(self):
        keeper = new(a=1, b=2, c=3)
        keeper.limit(0)
        with self.assertRaises(Cancelled):
            keeper.ask(("above",))
        keeper.limit(None)
        self.assertEqual(keeper.ask(("above",)), 3)
        self.assertEqual(keeper.ask(("down", 30)), 30)


class CycleTest(unittest.TestCase):
    def test_a_key_that_asks_for_itself(self):
        keeper = new(a=1, b=2)
        for _ in range(2):
            with self.assertRaises(CyclicKey):
                keeper.ask(("self",))
        self.assertEqual((keeper.kept(), keeper.computed()), ([], []))
        self.assertEqual(keeper.ask(("sum",)), 3)

    def test_through_others(self):
        keeper = new(a=1, b=2)
        for key in (("ping",), ("pong",), ("ping",)):
            with self.assertRaises(CyclicKey):
                keeper.ask(key)
        self.assertEqual(keeper.kept(), [])
        keeper.put(("a",), 0)
        self.assertEqual((keeper.ask(("ping",)), keeper.ask(("pong",))), (7, 7))
        keeper.put(("a",), 2)
        for key in (("ping",), ("pong",)):
            with self.assertRaises(CyclicKey):
                keeper.ask(key)
        # The old entries stayed, and are right again.
        self.assertEqual(sorted(keeper.kept()), [("ping",), ("pong",)])
        keeper.put(("a",), 0)
        keeper.computed()
        self.assertEqual((keeper.ask(("pong",)), keeper.ask(("ping",))), (7, 7))
        keeper.put(("pong",), 4)
        keeper.put(("a",), 1)
        self.assertEqual(keeper.ask(("ping",)), 5)

    def test_a_cycle_that_is_found_while_checking(self):
        def compute(keeper, key):
            if key[0] == "top":
                return keeper.ask(("low",)) + 1
            return keeper.ask(("top",)) if keeper.ask(("a",)) else 3
        keeper = Keeper(compute)
        keeper.put(("a",), 0)
        self.assertEqual(keeper.ask(("top",)), 4)
        keeper.put(("a",), 1)
        for key in (("top",), ("low",), ("top",)):
            with self.assertRaises(CyclicKey):
                keeper.ask(key)
        keeper.put(("a",), 0)
        self.assertEqual((keeper.ask(("top",)), keeper.ask(("low",))), (4, 3))

    def test_what_was_computed_before_the_cycle_stays(self):
        def compute(keeper, key):
            if key[0] == "top":
                return keeper.ask(("part",)) + keeper.ask(("top",))
            return 1
        keeper = Keeper(compute)
        with self.assertRaises(CyclicKey):
            keeper.ask(("top",))
        self.assertEqual(keeper.computed(), [("part",)])

    def test_limits_and_cycles(self):
        keeper = new()
        keeper.limit(1)
        with self.assertRaises(CyclicKey):
            keeper.ask(("self",))
        with self.assertRaises(Cancelled):
            keeper.ask(("self",))

    def test_other_errors_of_the_function(self):
        def compute(keeper, key):
            if key[0] == "top":
                return keeper.ask(("low",))
            return 10 // keeper.ask(("a",))
        keeper = Keeper(compute)
        keeper.put(("a",), 0)
        for key in (("top",), ("low",), ("top",)):
            with self.assertRaises(ZeroDivisionError):
                keeper.ask(key)
        keeper.put(("a",), 5)
        self.assertEqual((keeper.ask(("top",)), keeper.ask(("low",))), (2, 2))


class AnySequenceTest(unittest.TestCase):
    """Point 37, and every other promise against the model."""

    def compute(self, keeper, key):
        """A function of which the table tells for what it asks, depending on what it gets."""
        kind, number = key[0], key[1]
        if kind == "in":
            return number
        if kind == "free":
            first = keeper.ask(("in", number)) % 2
            if first:
                return (keeper.ask(("free", number + 1)) if number < 3 else 9) // 2
            return keeper.ask(("in", (number + 1) % 4)) % 3
        if kind == "round":
            # May lead back to itself.
            if keeper.ask(("in", number)) < 4:
                return keeper.ask(("round", (number + 1) % 4)) + 1
            return keeper.ask(("free", number)) + keeper.ask(("in", number))
        return (keeper.ask(("round", number)), keeper.ask(("free", 3 - number)), keeper.ask(("round", number)))

    def outcome(self, keeper, action):
        try:
            return (action(keeper), None)
        except (Cancelled, CyclicKey, UnknownKey) as error:
            return (None, type(error))

    def test_like_the_model_and_like_a_new_keeper(self):
        chance = random.Random(17)
        keys = [(kind, number) for kind in ("in", "free", "round", "all") for number in range(4)]
        cut = cyclic = 0
        for _ in range(400):
            keeper, model, inputs = Keeper(self.compute), Model(self.compute), {}
            for _ in range(40):
                key = chance.choice(keys)
                number = chance.choice((0, 1, 2, 3, 4, 5, True, False))
                count = chance.choice((0, 1, 2, 3, 5, None, None, None))
                step = chance.choice(("put", "put", "drop", "ask", "ask", "ask", "ask", "limit", "forget", "all"))
                if step == "put":
                    key = ("in", number % 4) if chance.random() < 0.8 else key
                    action = lambda held: held.put(key, number)
                    inputs[key] = number
                elif step == "drop":
                    action = lambda held: held.drop(key)
                    inputs.pop(key, None)
                elif step == "ask":
                    action = lambda held: held.ask(key)
                elif step == "limit":
                    action = lambda held: held.limit(count)
                elif step == "forget":
                    action = lambda held: held.forget(key)
                else:
                    action = lambda held: held.forget_all() if number == 3 else None
                found = self.outcome(keeper, action)
                self.assertEqual(found, self.outcome(model, action))
                self.assertEqual(keeper.revision(), model.revision())
                self.assertEqual(sorted(keeper.kept()), sorted(model.kept()))
                if chance.random() < 0.5:
                    self.assertEqual(keeper.computed(), model.computed())
                cut += found[1] is Cancelled
                cyclic += found[1] is CyclicKey
                if step == "ask" and found[1] is not Cancelled:
                    other = Keeper(self.compute)
                    for put, value in inputs.items():
                        other.put(put, value)
                    self.assertEqual(found, self.outcome(other, action))
        self.assertGreater(cut, 100)
        self.assertGreater(cyclic, 100)


if __name__ == "__main__":
    unittest.main()
