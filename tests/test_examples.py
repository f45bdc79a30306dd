"""The examples of the interface, as the document writes them."""

import unittest

from ticketwrap.errors import InvalidHall, TextFault
from ticketwrap.halls import Hall
from ticketwrap.times import display, longest_wait, ticket_times


class TestExamples(unittest.TestCase):
    def setUp(self):
        self.hall = Hall(3, (2, 0), (1,), 2)

    def test_period(self):
        self.assertEqual(self.hall.period, 2)

    def test_invalid_hall(self):
        with self.assertRaises(InvalidHall) as caught:
            Hall(3, (2, 0), (10,), 2)
        self.assertEqual((caught.exception.part, caught.exception.index), ("calls", 0))

    def test_growth(self):
        self.assertEqual(Hall(2, (1,), (0, 1), 0).growth, 1)

    def test_taken(self):
        self.assertEqual(self.hall.taken(3), 4)

    def test_called(self):
        self.assertEqual(self.hall.called(3), 3)

    def test_waiting(self):
        self.assertEqual([self.hall.waiting(0), self.hall.waiting(1)], [1, 0])

    def test_events(self):
        self.assertEqual(list(self.hall.events(0, 2)),
                         [("take", 0, 0), ("take", 0, 1), ("call", 0, 0), ("call", 1, 1)])

    def test_text(self):
        self.assertEqual(self.hall.text, "modulus 3\ntakes 2 0\ncalls 1\nlateness 2")

    def test_parse(self):
        self.assertEqual(Hall.parse("modulus 3\ntakes 2 0\ncalls 1\nlateness 2").takes, (2, 0))

    def test_text_fault(self):
        with self.assertRaises(TextFault) as caught:
            Hall.parse("modulus 3\ntakes 2\ncalls 1")
        self.assertEqual(caught.exception.line, 3)

    def test_ticket_times(self):
        self.assertEqual(ticket_times(self.hall, 3), (2, 3))

    def test_display(self):
        self.assertEqual(display(self.hall, 3), 0)

    def test_longest_wait(self):
        self.assertEqual(longest_wait(self.hall), 1)


if __name__ == "__main__":
    unittest.main()
