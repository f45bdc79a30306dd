"""The examples of the interface, as the document writes them."""

import unittest

from ticketwrap.clashes import (first_clash, first_mistake, holders, least_colors, mistaken, most_open,
                                open_tickets)
from ticketwrap.errors import Contradiction, InvalidHall, TextFault
from ticketwrap.halls import Hall
from ticketwrap.planning import greatest_lateness, least_modulus, plan_calls
from ticketwrap.times import display, longest_wait, ticket_times
from ticketwrap.watching import Watcher


class TestExamples(unittest.TestCase):
    def setUp(self):
        self.hall = Hall(3, (2, 0), (1,), 2)

    def test_period(self):
        self.assertEqual(self.hall.period, 2)

    def test_invalid_hall(self):
        with self.assertRaises(InvalidHall) as caught:
            Hall(3, (2, 0), (10,), 2)
        self.assertEqual((caught.exception.part, caught.exception.index), ("calls", 0))

    def test_growth(self):
        self.assertEqual(Hall(2, (1,), (0, 1), 0).growth, 1)

    def test_taken(self):
        self.assertEqual(self.hall.taken(3), 4)

    def test_called(self):
        self.assertEqual(self.hall.called(3), 3)

    def test_waiting(self):
        self.assertEqual([self.hall.waiting(0), self.hall.waiting(1)], [1, 0])

    def test_events(self):
        self.assertEqual(list(self.hall.events(0, 2)),
                         [("take", 0, 0), ("take", 0, 1), ("call", 0, 0), ("call", 1, 1)])

    def test_text(self):
        self.assertEqual(self.hall.text, "modulus 3\ntakes 2 0\ncalls 1\nlateness 2")

    def test_parse(self):
        self.assertEqual(Hall.parse("modulus 3\ntakes 2 0\ncalls 1\nlateness 2").takes, (2, 0))

    def test_text_fault(self):
        with self.assertRaises(TextFault) as caught:
            Hall.parse("modulus 3\ntakes 2\ncalls 1")
        self.assertEqual(caught.exception.line, 3)

    def test_ticket_times(self):
        self.assertEqual(ticket_times(self.hall, 3), (2, 3))

    def test_display(self):
        self.assertEqual(display(self.hall, 3), 0)

    def test_longest_wait(self):
        self.assertEqual(longest_wait(self.hall), 1)

    def test_open_tickets(self):
        self.assertEqual(open_tickets(self.hall, 4), (2, 4))

    def test_most_open(self):
        self.assertEqual(most_open(self.hall), 4)

    def test_first_clash(self):
        self.assertEqual(first_clash(self.hall), (2, 0, 3))

    def test_least_colors(self):
        self.assertEqual(least_colors(self.hall), 2)

    def test_holders(self):
        self.assertEqual(holders(self.hall, 2, 0), [0, 3])

    def test_mistaken(self):
        self.assertEqual(mistaken(Hall(2, (1,), (0, 1), 0), 3), [(1, 3)])

    def test_first_mistake(self):
        self.assertEqual(first_mistake(Hall(2, (1,), (0, 1), 0)), 3)

    def test_plan_calls(self):
        self.assertEqual(plan_calls(Hall(2, (2, 2, 0, 0), (1,), 0), 2), (0,))

    def test_least_modulus(self):
        self.assertEqual(least_modulus(self.hall), 4)

    def test_greatest_lateness(self):
        self.assertEqual(greatest_lateness(self.hall), 1)


class TestWatcherExamples(unittest.TestCase):
    def setUp(self):
        self.watcher = Watcher(Hall(3, (2, 0), (1,), 2))

    def test_see(self):
        self.assertEqual(self.watcher.see(0), 3)

    def test_contradiction(self):
        self.assertRaises(Contradiction, self.watcher.see, None)

    def test_see_all(self):
        self.assertEqual(self.watcher.see_all(0, 1), 3)

    def test_after_one_display(self):
        self.watcher.see(0)
        self.assertEqual(self.watcher.candidates, [0, 3, 6])
        self.assertEqual(self.watcher.history, [0])
        self.assertEqual(self.watcher.next_displays, [1])
        self.assertEqual(self.watcher.waits(1), [0])


if __name__ == "__main__":
    unittest.main()
