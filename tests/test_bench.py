"""Promise 13: operations on a bench, undo and redo, snapshots."""

import random
import unittest

import states
from ticketwrap.bench import Bench
from ticketwrap.errors import InvalidHall, InvalidName, UnknownName
from ticketwrap.halls import Hall

NO_NAMES = ("", "abcdefghi", "a" * 9, "a" * 1000, "A", "Ab", "aB", "a1", "1", "a b", " a", "a ", " ", "a_b", "_", "-",
            "a-b", "a.", "\n", "a\n", "\u00e4", "\u0430", "\u00aa", "\ufb01", None, True, False, 0, 1, -1, (), ("a",),
            [], ["a"], ("a", "b"), ([],))
WRONG_PARTS = [(word, value, index) for word, value, index in states.INVALID
               if word in ("modulus", "lateness") or isinstance(value, tuple)]


class BenchCase(unittest.TestCase):
    def setUp(self):
        self.bench = Bench(Hall(*states.START))

    def assert_state(self, bench, expected):
        self.assertEqual([bench.text, bench.operations], [states.text_of(expected.parts()), expected.words()])

    def assert_complete_state(self, bench, expected):
        self.assert_state(bench, expected)
        self.assertEqual(states.complete_state(bench), expected.complete())
        self.assert_state(bench, expected)

    def assert_fails(self, bench, part, value, index):
        with self.subTest(part=part, value=value):
            with self.assertRaises(InvalidHall) as caught:
                states.call(bench, (part, value))
            self.assertEqual((caught.exception.part, caught.exception.index), (part, index))


class TestAgainstAListOfStates(BenchCase):
    def test_random_operations(self):
        source = random.Random(50)
        for _ in range(60):
            bench, expected, saved = Bench(Hall(*states.START)), states.States(states.START), {}
            for _ in range(40):
                kind = source.randrange(10)
                name = source.choice(("a", "b", "abcdefgh"))
                if kind == 0:
                    self.assertIsNone(bench.save(name))
                    saved[name] = expected.copy()
                elif kind == 1 and name in saved:
                    self.assertIsNone(bench.restore(name))
                    expected = saved[name].copy()
                elif kind == 1:
                    self.assertRaises(UnknownName, bench.restore, name)
                elif kind == 2:
                    self.assert_fails(bench, *source.choice(WRONG_PARTS))
                else:
                    operation = states.random_operation(source)
                    self.assertEqual(states.call(bench, operation), expected.execute(operation), operation)
                self.assert_state(bench, expected)
                if source.randrange(5) == 0:
                    self.assert_complete_state(bench, expected)
            self.assert_complete_state(bench, expected)

    def test_several_benches_of_one_hall(self):
        source = random.Random(51)
        hall = Hall(*states.START)
        pairs = [(Bench(hall), states.States(states.START)) for _ in range(4)]
        for step in range(200):
            bench, expected = source.choice(pairs)
            operation = states.random_operation(source)
            self.assertEqual(states.call(bench, operation), expected.execute(operation))
            bench.save("x")
            for other, state in pairs:
                self.assert_state(other, state)
        for bench, expected in pairs:
            self.assert_complete_state(bench, expected)
        self.assertEqual([hall.modulus, hall.takes, hall.calls, hall.lateness], list(states.START))


class TestSetting(BenchCase):
    def test_each_part(self):
        self.assertEqual(self.bench.text, "modulus 3\ntakes 2 0\ncalls 1\nlateness 2")
        self.assertEqual(self.bench.operations, [])
        for operation, result, text in (
                (("modulus", 5), 4, "modulus 5\ntakes 2 0\ncalls 1\nlateness 2"),
                (("takes", (1, 1)), 3, "modulus 5\ntakes 1 1\ncalls 1\nlateness 2"),
                (("lateness", 0), 1, "modulus 5\ntakes 1 1\ncalls 1\nlateness 0"),
                (("calls", (0, 1)), None, "modulus 5\ntakes 1 1\ncalls 0 1\nlateness 0"),
                (("calls", (0, 2)), 2, "modulus 5\ntakes 1 1\ncalls 0 2\nlateness 0"),
                (("takes", (0,)), 0, "modulus 5\ntakes 0\ncalls 0 2\nlateness 0")):
            self.assertEqual(states.call(self.bench, operation), result)
            self.assertEqual(self.bench.text, text)
        self.assertEqual(self.bench.operations, ["modulus", "takes", "lateness", "calls", "calls", "takes"])

    def test_edges(self):
        for operation in (("modulus", 2), ("modulus", 10000), ("lateness", 0), ("lateness", 99), ("takes", (0,)),
                          ("takes", (9,) * 12), ("calls", (9,)), ("calls", (0,) * 12)):
            expected = states.States(states.START)
            bench = Bench(Hall(*states.START))
            with self.subTest(operation=operation):
                self.assertEqual(states.call(bench, operation), expected.execute(operation))
                self.assert_complete_state(bench, expected)

    def test_the_same_value_is_an_operation_too(self):
        for operation in (("modulus", 3), ("takes", (2, 0)), ("calls", (1,)), ("lateness", 2)):
            self.assertEqual(states.call(self.bench, operation), 4)
        self.assertEqual(self.bench.operations, ["modulus", "takes", "calls", "lateness"])
        self.assertEqual([self.bench.undo() for _ in range(5)], [True] * 4 + [False])

    def test_invalid_halls(self):
        expected = states.States(states.START)
        for operation in (("modulus", 7), ("takes", (3, 0)), ("lateness", 1), ("undo",)):
            self.assertEqual(states.call(self.bench, operation), expected.execute(operation))
        for part, value, index in WRONG_PARTS:
            self.assert_fails(self.bench, part, value, index)
            self.assert_state(self.bench, expected)
        self.assert_complete_state(self.bench, expected)
        self.assertEqual([self.bench.redo(), self.bench.operations], [True, ["modulus", "takes", "lateness"]])

    def test_arguments_of_patterns_are_separate(self):
        for wrong in (((1, 1),), ([1, 1],), ("1", "1"), ("11",), (None,)):
            self.assertRaises(InvalidHall, self.bench.set_takes, *wrong)
            self.assertRaises(InvalidHall, self.bench.set_calls, *wrong)
        self.assertRaises(InvalidHall, self.bench.set_takes)
        self.assertRaises(InvalidHall, self.bench.set_calls)
        self.assertEqual(self.bench.operations, [])


class TestUndoAndRedo(BenchCase):
    def test_nothing_to_undo_or_redo(self):
        for _ in range(3):
            self.assertEqual([self.bench.undo(), self.bench.redo()], [False, False])
        self.assertEqual(self.bench.operations, [])
        self.bench.set_modulus(7)
        self.assertEqual([self.bench.redo(), self.bench.operations], [False, ["modulus"]])

    def test_they_return_booleans(self):
        self.bench.set_modulus(7)
        for found in (self.bench.undo(), self.bench.undo(), self.bench.redo(), self.bench.redo()):
            self.assertIs(type(found), bool)

    def test_several_in_a_row(self):
        texts = [self.bench.text]
        for modulus in (4, 5, 6):
            self.bench.set_modulus(modulus)
            texts.append(self.bench.text)
        for at in (2, 1, 0):
            self.assertEqual([self.bench.undo(), self.bench.text, self.bench.operations],
                             [True, texts[at], ["modulus"] * at])
        self.assertFalse(self.bench.undo())
        for at in (1, 2, 3):
            self.assertEqual([self.bench.redo(), self.bench.text, self.bench.operations],
                             [True, texts[at], ["modulus"] * at])
        self.assertFalse(self.bench.redo())

    def test_an_operation_ends_what_redo_could_do(self):
        self.bench.set_modulus(7)
        self.bench.set_lateness(5)
        self.assertEqual([self.bench.undo(), self.bench.undo()], [True, True])
        self.bench.set_takes(1)
        self.assertEqual([self.bench.redo(), self.bench.operations], [False, ["takes"]])
        self.assertEqual(self.bench.text, "modulus 3\ntakes 1\ncalls 1\nlateness 2")
        self.assertEqual([self.bench.undo(), self.bench.redo(), self.bench.operations], [True, True, ["takes"]])

    def test_the_same_operation_ends_it_too(self):
        self.bench.set_modulus(7)
        self.bench.set_lateness(5)
        self.bench.undo()
        self.bench.undo()
        self.bench.set_modulus(7)
        self.assertEqual([self.bench.redo(), self.bench.operations], [False, ["modulus"]])

    def test_a_failed_operation_does_not(self):
        self.bench.set_modulus(7)
        self.bench.undo()
        self.assertRaises(InvalidHall, self.bench.set_modulus, 1)
        self.assertRaises(InvalidHall, self.bench.set_takes)
        self.assertRaises(InvalidName, self.bench.save, "")
        self.assertRaises(UnknownName, self.bench.restore, "x")
        self.bench.save("x")
        self.assertEqual([self.bench.redo(), self.bench.operations], [True, ["modulus"]])


class TestSnapshots(BenchCase):
    def test_save_and_restore_return_none(self):
        self.assertIsNone(self.bench.save("x"))
        self.assertIsNone(self.bench.restore("x"))

    def test_names(self):
        for name in ("a", "z", "m", "abcdefgh", "zzzzzzzz", "ticket", "undo", "x" * 8):
            self.bench.set_modulus(7)
            self.bench.save(name)
            self.bench.undo()
            self.bench.restore(name)
            self.assertEqual(self.bench.operations[-1:], ["modulus"])
        self.assertRaises(UnknownName, self.bench.restore, "b")
        self.assertRaises(UnknownName, self.bench.restore, "zz")

    def test_wrong_names(self):
        self.bench.set_modulus(7)
        self.bench.save("a")
        self.bench.set_modulus(8)
        self.bench.undo()
        expected = states.complete_state(self.bench)
        for name in NO_NAMES:
            with self.subTest(name=name):
                self.assertRaises(InvalidName, self.bench.save, name)
                self.assertRaises(UnknownName, self.bench.restore, name)
                self.assertEqual(states.complete_state(self.bench), expected)

    def test_unknown_names(self):
        for name in ("a", "x", "abcdefgh"):
            self.assertRaises(UnknownName, self.bench.restore, name)
        self.bench.save("ab")
        for name in ("a", "b", "abc", "ba", "AB"):
            self.assertRaises(UnknownName, self.bench.restore, name)
        self.assertRaises(UnknownName, Bench(Hall(*states.START)).restore, "ab")

    def test_what_undo_and_redo_would_do_is_restored(self):
        self.bench.set_modulus(7)
        self.bench.set_lateness(5)
        self.bench.undo()
        self.bench.save("x")
        self.bench.set_takes(1)
        self.bench.set_calls(2)
        self.assertFalse(self.bench.redo())
        for _ in range(2):
            self.bench.restore("x")
            self.assertEqual(self.bench.operations, ["modulus"])
            self.assertEqual([self.bench.redo(), self.bench.operations], [True, ["modulus", "lateness"]])
            self.assertEqual([self.bench.undo(), self.bench.undo(), self.bench.undo()], [True, True, False])
            self.bench.set_calls(3)

    def test_restoring_is_no_operation(self):
        self.bench.save("x")
        self.bench.set_modulus(7)
        self.bench.restore("x")
        self.assertEqual([self.bench.undo(), self.bench.redo(), self.bench.operations], [False, False, []])

    def test_saving_again_replaces(self):
        self.bench.save("x")
        self.bench.set_modulus(7)
        self.bench.save("x")
        self.bench.set_modulus(8)
        self.bench.restore("x")
        self.assertEqual([self.bench.operations, self.bench.text.split("\n")[0]], [["modulus"], "modulus 7"])

    def test_snapshots_are_not_part_of_the_state(self):
        self.bench.save("a")
        self.bench.set_modulus(7)
        self.bench.save("b")
        self.bench.restore("a")
        # Neither restoring nor undoing takes the later snapshot away or brings an earlier one back.
        self.bench.restore("b")
        self.assertEqual(self.bench.operations, ["modulus"])
        self.bench.set_modulus(8)
        self.bench.save("a")
        self.bench.undo()
        self.bench.restore("a")
        self.assertEqual(self.bench.operations, ["modulus", "modulus"])


class TestReadings(BenchCase):
    def test_operations_are_new_for_each_reading(self):
        self.bench.set_modulus(7)
        self.bench.set_lateness(1)
        first = self.bench.operations
        first.append("x")
        first[0] = "y"
        self.assertEqual(self.bench.operations, ["modulus", "lateness"])
        second = self.bench.operations
        second.clear()
        self.bench.save("x")
        self.bench.undo()
        self.bench.operations.append("z")
        self.bench.restore("x")
        self.assertEqual([self.bench.operations, second], [["modulus", "lateness"], []])
        self.bench.undo()
        self.assertEqual([self.bench.operations, self.bench.redo()], [["modulus"], True])

    def test_the_hall_stays_as_it_is(self):
        hall = Hall(*states.START)
        bench = Bench(hall)
        for operation in (("modulus", 7), ("takes", (1,)), ("calls", (3,)), ("lateness", 50)):
            states.call(bench, operation)
        self.assertEqual((hall.modulus, hall.takes, hall.calls, hall.lateness), states.START)
        self.assertEqual([hall.text, hall.period, hall.called(3)], [states.text_of(states.START), 2, 3])

    def test_reading_again(self):
        self.bench.set_modulus(7)
        self.bench.undo()
        for _ in range(3):
            self.assertEqual([self.bench.text, self.bench.operations], [states.text_of(states.START), []])
        self.assertTrue(self.bench.redo())


if __name__ == "__main__":
    unittest.main()
