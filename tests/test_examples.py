"""The examples of the interface, as the document writes them."""

import unittest

from ticketwrap.bench import Bench, format_session, parse_session
from ticketwrap.clashes import (first_clash, first_mistake, holders, least_colors, mistaken, most_open,
                                open_tickets)
from ticketwrap.comparison import first_difference, first_error
from ticketwrap.encoding import decode, encode
from ticketwrap.errors import Contradiction, InvalidCode, InvalidHall, InvalidOperation, TextFault
from ticketwrap.halls import Hall
from ticketwrap.planning import greatest_lateness, least_modulus, plan_calls
from ticketwrap.times import display, longest_wait, ticket_times
from ticketwrap.watching import Watcher


class TestExamples(unittest.TestCase):
    def setUp(self):
        self.hall = Hall(3, (2, 0), (1,), 2)

    def test_period(self):
        self.assertEqual(self.hall.period, 2)

    def test_invalid_hall(self):
        with self.assertRaises(InvalidHall) as caught:
            Hall(3, (2, 0), (10,), 2)
        self.assertEqual((caught.exception.part, caught.exception.index), ("calls", 0))

    def test_growth(self):
        self.assertEqual(Hall(2, (1,), (0, 1), 0).growth, 1)

    def test_taken(self):
        self.assertEqual(self.hall.taken(3), 4)

    def test_called(self):
        self.assertEqual(self.hall.called(3), 3)

    def test_waiting(self):
        self.assertEqual([self.hall.waiting(0), self.hall.waiting(1)], [1, 0])

    def test_events(self):
        self.assertEqual(list(self.hall.events(0, 2)),
                         [("take", 0, 0), ("take", 0, 1), ("call", 0, 0), ("call", 1, 1)])

    def test_text(self):
        self.assertEqual(self.hall.text, "modulus 3\ntakes 2 0\ncalls 1\nlateness 2")

    def test_parse(self):
        self.assertEqual(Hall.parse("modulus 3\ntakes 2 0\ncalls 1\nlateness 2").takes, (2, 0))

    def test_text_fault(self):
        with self.assertRaises(TextFault) as caught:
            Hall.parse("modulus 3\ntakes 2\ncalls 1")
        self.assertEqual(caught.exception.line, 3)

    def test_ticket_times(self):
        self.assertEqual(ticket_times(self.hall, 3), (2, 3))

    def test_display(self):
        self.assertEqual(display(self.hall, 3), 0)

    def test_longest_wait(self):
        self.assertEqual(longest_wait(self.hall), 1)

    def test_open_tickets(self):
        self.assertEqual(open_tickets(self.hall, 4), (2, 4))

    def test_most_open(self):
        self.assertEqual(most_open(self.hall), 4)

    def test_first_clash(self):
        self.assertEqual(first_clash(self.hall), (2, 0, 3))

    def test_least_colors(self):
        self.assertEqual(least_colors(self.hall), 2)

    def test_holders(self):
        self.assertEqual(holders(self.hall, 2, 0), [0, 3])

    def test_mistaken(self):
        self.assertEqual(mistaken(Hall(2, (1,), (0, 1), 0), 3), [(1, 3)])

    def test_first_mistake(self):
        self.assertEqual(first_mistake(Hall(2, (1,), (0, 1), 0)), 3)

    def test_plan_calls(self):
        self.assertEqual(plan_calls(Hall(2, (2, 2, 0, 0), (1,), 0), 2), (0,))

    def test_least_modulus(self):
        self.assertEqual(least_modulus(self.hall), 4)

    def test_greatest_lateness(self):
        self.assertEqual(greatest_lateness(self.hall), 1)

    def test_first_difference(self):
        self.assertEqual(first_difference(self.hall, Hall(4, (2, 0), (1,), 2)), (3, 0, 3))

    def test_first_error(self):
        self.assertEqual(first_error(self.hall, [0, 1, 1]), 2)

    def test_encode(self):
        self.assertEqual(encode(self.hall), [84, 0, 3, 2, 2, 0, 1, 1, 2, 95])

    def test_decode(self):
        self.assertEqual(decode([84, 0, 3, 2, 2, 0, 1, 1, 2, 95]).takes, (2, 0))

    def test_invalid_code(self):
        with self.assertRaises(InvalidCode) as caught:
            decode([84, 0, 1])
        self.assertEqual(caught.exception.place, 2)

    def test_format_session(self):
        self.assertEqual(format_session(self.hall, [("takes", (1, 1)), ("undo",)]),
                         "modulus 3\ntakes 2 0\ncalls 1\nlateness 2\ntakes 1 1\nundo")

    def test_parse_session(self):
        text = "modulus 3\ntakes 2 0\ncalls 1\nlateness 2"
        self.assertEqual(parse_session(text + "\nmodulus 7")[1], [("modulus", 7)])


class TestWatcherExamples(unittest.TestCase):
    def setUp(self):
        self.watcher = Watcher(Hall(3, (2, 0), (1,), 2))

    def test_see(self):
        self.assertEqual(self.watcher.see(0), 3)

    def test_contradiction(self):
        self.assertRaises(Contradiction, self.watcher.see, None)

    def test_see_all(self):
        self.assertEqual(self.watcher.see_all(0, 1), 3)

    def test_after_one_display(self):
        self.watcher.see(0)
        self.assertEqual(self.watcher.candidates, [0, 3, 6])
        self.assertEqual(self.watcher.history, [0])
        self.assertEqual(self.watcher.next_displays, [1])
        self.assertEqual(self.watcher.waits(1), [0])


class TestBenchExamples(unittest.TestCase):
    def setUp(self):
        self.bench = Bench(Hall(3, (2, 0), (1,), 2))

    def test_set_modulus(self):
        self.assertEqual(self.bench.set_modulus(5), 4)

    def test_set_takes(self):
        self.assertEqual(self.bench.set_takes(1, 1), 3)

    def test_set_calls(self):
        self.assertIsNone(self.bench.set_calls(0, 1))

    def test_set_lateness(self):
        self.assertEqual(self.bench.set_lateness(0), 2)

    def test_undo(self):
        self.bench.set_lateness(0)
        self.assertEqual([self.bench.undo(), self.bench.operations, self.bench.undo()], [True, [], False])

    def test_redo(self):
        self.bench.set_lateness(0)
        self.bench.undo()
        self.assertEqual([self.bench.redo(), self.bench.operations], [True, ["lateness"]])

    def test_text_and_operations(self):
        self.bench.set_modulus(7)
        self.assertEqual(self.bench.text, "modulus 7\ntakes 2 0\ncalls 1\nlateness 2")
        self.assertEqual(self.bench.operations, ["modulus"])

    def test_save_and_restore(self):
        self.bench.save("x")
        self.bench.set_modulus(7)
        self.bench.restore("x")
        self.assertEqual(self.bench.operations, [])

    def test_batch(self):
        self.assertEqual(self.bench.batch([("modulus", 7), ("undo",)]), [4, True])

    def test_invalid_operation(self):
        with self.assertRaises(InvalidOperation) as caught:
            self.bench.batch([("modulus",)])
        self.assertEqual(caught.exception.place, 0)

    def test_replay(self):
        bench = Bench.replay(Hall(3, (2, 0), (1,), 2), [("takes", (1, 1))])
        self.assertEqual(bench.text, "modulus 3\ntakes 1 1\ncalls 1\nlateness 2")


if __name__ == "__main__":
    unittest.main()
