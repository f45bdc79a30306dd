"""Promise 14: batches, and replays on a new bench."""

import random
import unittest

import states
from ticketwrap.bench import Bench
from ticketwrap.errors import HallError, InvalidHall, InvalidOperation
from ticketwrap.halls import Hall


def random_operations(source, most):
    return [states.random_operation(source) for _ in range(source.randint(0, most))]


class BatchCase(unittest.TestCase):
    def setUp(self):
        self.bench = Bench(Hall(*states.START))
        # There is something to undo and something to redo.
        for operation in (("modulus", 7), ("takes", (3, 0)), ("lateness", 1), ("calls", (2,)), ("undo",), ("undo",)):
            states.call(self.bench, operation)
        self.before = states.complete_state(self.bench)

    def assert_malformed(self, operations, place):
        with self.assertRaises(InvalidOperation) as caught:
            self.bench.batch(operations)
        self.assertEqual(caught.exception.place, place)
        self.assertIs(type(caught.exception.place), int)
        self.assertEqual(states.complete_state(self.bench), self.before)

    def assert_batch_fails(self, operations, part, index):
        with self.assertRaises(InvalidHall) as caught:
            self.bench.batch(operations)
        self.assertEqual((caught.exception.part, caught.exception.index), (part, index))
        self.assertEqual(states.complete_state(self.bench), self.before)

    def assert_replay_fails(self, operations, place):
        with self.assertRaises(InvalidOperation) as caught:
            Bench.replay(Hall(*states.START), operations)
        self.assertEqual(caught.exception.place, place)
        self.assertIs(type(caught.exception.place), int)


class TestBatch(BatchCase):
    def test_against_single_calls(self):
        source = random.Random(60)
        for _ in range(150):
            one, other = Bench(Hall(*states.START)), Bench(Hall(*states.START))
            for _ in range(3):
                operations = random_operations(source, 12)
                with self.subTest(operations=operations):
                    self.assertEqual(one.batch(operations), [states.call(other, entry) for entry in operations])
                    self.assertEqual(states.complete_state(one), states.complete_state(other))

    def test_against_a_list_of_states(self):
        source = random.Random(61)
        bench, expected = Bench(Hall(*states.START)), states.States(states.START)
        for _ in range(100):
            operations = random_operations(source, 8)
            fails = source.randrange(3) == 0
            if fails:
                part, value, index = source.choice(states.INVALID)
                operations.insert(source.randint(0, len(operations)), (part, value))
                with self.assertRaises(InvalidHall) as caught:
                    bench.batch(operations)
                self.assertEqual((caught.exception.part, caught.exception.index), (part, index))
            else:
                self.assertEqual(bench.batch(operations), [expected.execute(entry) for entry in operations])
            self.assertEqual(states.complete_state(bench), expected.complete())

    def test_known(self):
        bench = Bench(Hall(*states.START))
        self.assertEqual(bench.batch([("modulus", 7), ("undo",)]), [4, True])
        self.assertEqual(bench.batch([("redo",), ("redo",), ("calls", (0, 1)), ("lateness", 0), ("takes", (1, 1))]),
                         [True, False, None, None, None])
        self.assertEqual(bench.operations, ["modulus", "calls", "lateness", "takes"])
        self.assertEqual([bench.undo(), bench.operations], [True, ["modulus", "calls", "lateness"]])

    def test_no_operations(self):
        self.assertEqual(self.bench.batch([]), [])
        self.assertEqual(states.complete_state(self.bench), self.before)

    def test_undo_and_redo_alone(self):
        self.assertEqual(self.bench.batch([("undo",), ("undo",), ("undo",)]), [True, True, False])
        self.assertEqual(self.bench.operations, [])
        self.assertEqual(self.bench.batch([("redo",)] * 5), [True] * 4 + [False])
        self.assertEqual(self.bench.operations, ["modulus", "takes", "lateness", "calls"])
        self.assertEqual(self.bench.batch([("undo",), ("undo",)]), [True, True])
        self.assertEqual(states.complete_state(self.bench), self.before)

    def test_the_results_are_booleans_and_numbers(self):
        kinds = [type(result) for result in self.bench.batch([("undo",), ("modulus", 3), ("redo",), ("takes", (9,))])]
        self.assertEqual(kinds, [bool, int, bool, type(None)])

    def test_lists(self):
        operations = [("modulus", 9), ("takes", (1,))]
        results = self.bench.batch(operations)
        self.assertEqual([type(results), operations], [list, [("modulus", 9), ("takes", (1,))]])
        after = states.complete_state(self.bench)
        operations[0] = ("undo",)
        operations.append(None)
        results.clear()
        self.assertEqual(states.complete_state(self.bench), after)
        self.assertEqual([self.bench.batch([("undo",)]), self.bench.batch([("undo",)])], [[True], [True]])


class TestFailedBatch(BatchCase):
    def test_each_invalid_argument(self):
        for part, value, index in states.INVALID:
            with self.subTest(part=part, value=value):
                self.assert_batch_fails([(part, value)], part, index)
                self.assert_batch_fails([("undo",), (part, value), ("redo",)], part, index)
                self.assert_batch_fails([("modulus", 9), ("takes", (1,)), (part, value)], part, index)

    def test_fails_in_the_middle(self):
        for start in ([("undo",)], [("undo",)] * 3, [("redo",)], [("redo",)] * 3, [("modulus", 9)], [("calls", (1, 2))],
                      [("undo",), ("modulus", 9), ("undo",)], [("redo",), ("redo",), ("lateness", 3), ("undo",)]):
            for end in ([], [("undo",)], [("redo",), ("modulus", 1)], [("takes", (7,)), ("takes", ())]):
                with self.subTest(start=start, end=end):
                    self.assert_batch_fails(start + [("lateness", 100)] + end, "lateness", 0)

    def test_the_first_failure_counts(self):
        self.assert_batch_fails([("takes", (1, 10)), ("modulus", 1)], "takes", 1)
        self.assert_batch_fails([("modulus", 1), ("takes", (1, 10))], "modulus", 0)

    def test_undo_and_redo_after_a_failure(self):
        self.assert_batch_fails([("modulus", 9), ("modulus", 1)], "modulus", 0)
        self.assertEqual([self.bench.redo(), self.bench.operations], [True, ["modulus", "takes", "lateness"]])
        self.assertEqual([self.bench.undo(), self.bench.undo(), self.bench.operations], [True, True, ["modulus"]])

    def test_snapshots_stay(self):
        self.bench.save("x")
        self.bench.undo()
        self.before = states.complete_state(self.bench)
        self.assert_batch_fails([("undo",), ("modulus", 1)], "modulus", 0)
        self.bench.restore("x")
        self.assertEqual(self.bench.operations, ["modulus", "takes"])

    def test_restoring_after_a_batch(self):
        self.bench.save("x")
        self.bench.batch([("undo",), ("modulus", 9), ("takes", (1,))])
        self.bench.restore("x")
        self.assertEqual(states.complete_state(self.bench), self.before)


class TestMalformedBatch(BatchCase):
    def test_no_list(self):
        for operations in states.NO_LISTS:
            with self.subTest(operations=operations):
                self.assert_malformed(operations, 0)

    def test_each_malformed_entry(self):
        for entry in states.MALFORMED:
            with self.subTest(entry=entry):
                self.assert_malformed([entry], 0)
                self.assert_malformed([("undo",), entry], 1)
                self.assert_malformed([("takes", (1,)), ("redo",), entry, ("modulus", 7)], 2)

    def test_the_first_malformed_entry_counts(self):
        self.assert_malformed([("modulus", 7), ("undo", 1), ("x",), None], 1)
        self.assert_malformed([("modulus", 7), ("undo",), ("x",), None], 2)

    def test_malformed_entries_come_before_failures(self):
        self.assert_malformed([("modulus", 1), ("takes", ()), ("undo", 1)], 2)
        self.assert_malformed([("modulus", None), ("modulus",)], 1)

    def test_arguments_of_another_kind_are_not_malformed(self):
        for operation in (("modulus", (1, 2)), ("lateness", (1,)), ("takes", 7), ("calls", 1), ("calls", [1]),
                          ("takes", "undo")):
            self.assert_batch_fails([operation], operation[0], 0)


class TestReplay(BatchCase):
    def test_against_single_calls(self):
        source = random.Random(62)
        for _ in range(200):
            operations = random_operations(source, 15)
            other = Bench(Hall(*states.START))
            for entry in operations:
                states.call(other, entry)
            with self.subTest(operations=operations):
                bench = Bench.replay(Hall(*states.START), operations)
                self.assertIs(type(bench), Bench)
                self.assertEqual(states.complete_state(bench), states.complete_state(other))

    def test_known(self):
        bench = Bench.replay(Hall(*states.START), [("takes", (1, 1))])
        self.assertEqual([bench.text, bench.operations], ["modulus 3\ntakes 1 1\ncalls 1\nlateness 2", ["takes"]])
        self.assertEqual([bench.undo(), bench.text, bench.undo()], [True, states.text_of(states.START), False])

    def test_no_operations(self):
        bench = Bench.replay(Hall(*states.START), [])
        self.assertEqual([bench.text, bench.operations, bench.undo(), bench.redo()],
                         [states.text_of(states.START), [], False, False])

    def test_undo_and_redo_alone(self):
        bench = Bench.replay(Hall(*states.START), [("undo",), ("redo",), ("undo",)])
        self.assertEqual([bench.text, bench.operations], [states.text_of(states.START), []])

    def test_off_an_object(self):
        bench = self.bench.replay(Hall(*states.START), [("lateness", 5)])
        self.assertEqual(bench.operations, ["lateness"])
        self.assertEqual(states.complete_state(self.bench), self.before)

    def test_a_replayed_bench_goes_on(self):
        bench = Bench.replay(Hall(*states.START), [("lateness", 5), ("modulus", 7), ("undo",)])
        bench.save("x")
        self.assertEqual(bench.batch([("redo",), ("undo",), ("undo",)]), [True, True, True])
        bench.restore("x")
        self.assertEqual([bench.operations, bench.redo(), bench.set_lateness(0)], [["lateness"], True, 2])

    def test_no_list(self):
        for operations in states.NO_LISTS:
            with self.subTest(operations=operations):
                self.assert_replay_fails(operations, 0)

    def test_malformed_entries(self):
        for entry in states.MALFORMED:
            with self.subTest(entry=entry):
                self.assert_replay_fails([entry], 0)
                self.assert_replay_fails([("undo",), ("modulus", 7), entry, entry], 2)

    def test_failures(self):
        for part, value, _ in states.INVALID:
            with self.subTest(part=part, value=value):
                self.assert_replay_fails([(part, value)], 0)
                self.assert_replay_fails([("redo",), ("calls", (1,)), ("undo",), (part, value), ("undo",)], 3)

    def test_the_first_of_both_counts(self):
        self.assert_replay_fails([("modulus", 1), ("x",)], 0)
        self.assert_replay_fails([("undo",), ("x",), ("modulus", 1)], 1)
        self.assert_replay_fails([("undo",), ("modulus", 1), None], 1)

    def test_all_errors_are_those_of_the_interface(self):
        for entry in states.MALFORMED + tuple((part, value) for part, value, _ in states.INVALID):
            for execute in (self.bench.batch, lambda entries: Bench.replay(Hall(*states.START), entries)):
                with self.assertRaises(HallError):
                    execute([entry])

    def test_arguments_stay_as_they_are(self):
        hall = Hall(*states.START)
        operations = [("modulus", 7), ("takes", (1,)), ("undo",)]
        bench = Bench.replay(hall, operations)
        self.assertEqual(operations, [("modulus", 7), ("takes", (1,)), ("undo",)])
        self.assertEqual(hall.text, states.text_of(states.START))
        after = states.complete_state(bench)
        operations.clear()
        self.assertEqual(states.complete_state(bench), after)
        wrong = [("modulus", 7), ["undo"], ("takes", [1])]
        self.assert_replay_fails(wrong, 1)
        self.assert_malformed(wrong, 1)
        self.assertEqual(wrong, [("modulus", 7), ["undo"], ("takes", [1])])


if __name__ == "__main__":
    unittest.main()
