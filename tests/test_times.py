"""Promises 1 and 5: when tickets are taken and called, and what the display shows."""

import unittest

import simulation
from ticketwrap.errors import InvalidNumber, InvalidTick
from ticketwrap.halls import Hall
from ticketwrap.times import display, longest_wait, ticket_times

LAST = 10 ** 18
OUT_OF_RANGE = (-1, -LAST, LAST + 1, 10 ** 30, True, False, None, "", "0", (), (0,), [], [0])


def mixed_halls():
    return [Hall(3, (2, 0), (1,), 2), Hall(3, (0,), (1,), 2), Hall(3, (1,), (0,), 2), Hall(2, (0,), (0,), 0)]


class TestTicketTimes(unittest.TestCase):
    def test_against_a_simulation(self):
        for parts in simulation.hall_parts():
            hall = Hall(*parts)
            events = simulation.play(parts[1], parts[2], 60 * hall.period if hall.period < 9 else 5 * hall.period)
            times = simulation.times(events)
            with self.subTest(parts=parts):
                for number, ticks in times.items():
                    found = ticket_times(hall, number)
                    self.assertIs(type(found), tuple)
                    self.assertEqual(found[0], ticks[0])
                    if len(ticks) == 2:
                        self.assertEqual(found[1], ticks[1])
                    elif sum(parts[2]) == 0:
                        self.assertIsNone(found[1])
                    else:
                        self.assertGreaterEqual(found[1], 5 * hall.period)

    def test_late_numbers_agree_with_the_counts(self):
        for parts in simulation.hall_parts():
            hall = Hall(*parts)
            for number in (0, 1, 12345678987654321, LAST - 1, LAST):
                times = ticket_times(hall, number)
                with self.subTest(parts=parts, number=number):
                    if sum(parts[1]) == 0:
                        self.assertIsNone(times)
                        continue
                    taken, called = times
                    self.assertTrue(hall.taken(taken) <= number < hall.taken(taken + 1))
                    if sum(parts[2]) == 0:
                        self.assertIsNone(called)
                    else:
                        self.assertTrue(hall.called(called) <= number < hall.called(called + 1))

    def test_known(self):
        hall = Hall(3, (2, 0), (1,), 2)
        self.assertEqual([ticket_times(hall, number) for number in range(5)],
                         [(0, 0), (0, 1), (2, 2), (2, 3), (4, 4)])
        self.assertEqual(ticket_times(hall, LAST), (LAST, LAST))
        self.assertEqual(ticket_times(Hall(2, (1,), (0, 1), 0), LAST), (LAST, 2 * LAST + 1))
        self.assertEqual(ticket_times(Hall(2, (0,) * 11 + (1,), (9,), 0), LAST), (12 * LAST + 11, 12 * LAST + 11))
        self.assertEqual(ticket_times(Hall(2, (9,), (0,) * 11 + (1,), 0), LAST), (LAST // 9, 12 * LAST + 11))
        self.assertEqual(ticket_times(Hall(2, (0, 0, 4), (2,), 0), 2), (2, 3))

    def test_never_called(self):
        hall = Hall(3, (0, 2), (0, 0, 0), 9)
        self.assertEqual([ticket_times(hall, number) for number in (0, 1, 2, LAST)],
                         [(1, None), (1, None), (3, None), (LAST + 1, None)])

    def test_never_taken(self):
        for calls in ((0,), (9, 0)):
            hall = Hall(3, (0, 0, 0), calls, 9)
            self.assertEqual([ticket_times(hall, number) for number in (0, 1, LAST)], [None, None, None])

    def test_invalid_numbers(self):
        for hall in mixed_halls():
            for number in OUT_OF_RANGE:
                with self.subTest(text=hall.text, number=number):
                    self.assertRaises(InvalidNumber, ticket_times, hall, number)


class TestDisplay(unittest.TestCase):
    def test_against_a_simulation(self):
        for parts in simulation.hall_parts():
            hall = Hall(*parts)
            ticks = min(4 * hall.period, 150)
            calls = [event for event in simulation.play(parts[1], parts[2], ticks) if event[0] == "call"]
            shown = None
            with self.subTest(parts=parts):
                for tick in range(ticks):
                    for _, _, number in [event for event in calls if event[1] == tick]:
                        shown = number % parts[0]
                    self.assertEqual(display(hall, tick), shown)

    def test_the_calls_of_the_tick_count(self):
        hall = Hall(5, (0, 3), (0, 2), 0)
        self.assertEqual([display(hall, tick) for tick in range(8)], [None, 1, 1, 3, 3, 0, 0, 2])

    def test_each_modulus_wraps(self):
        for modulus in (2, 3, 10, 9999, 10000):
            hall = Hall(modulus, (1,), (1,), 0)
            with self.subTest(modulus=modulus):
                self.assertEqual([display(hall, tick) for tick in (0, 1, modulus - 1, modulus, 2 * modulus + 1)],
                                 [0, 1, modulus - 1, 0, 1])

    def test_last_tick(self):
        self.assertEqual(display(Hall(10000, (1,), (1,), 0), LAST), 0)
        self.assertEqual(display(Hall(7, (1,), (1,), 0), LAST), LAST % 7)
        self.assertEqual(display(Hall(9999, (9,), (0, 1), 0), LAST), (LAST // 2 - 1) % 9999)

    def test_nothing_is_called(self):
        for takes, calls in (((0,), (9,)), ((9,), (0,)), ((0,), (0,))):
            hall = Hall(2, takes, calls, 99)
            self.assertEqual([display(hall, tick) for tick in (0, 1, 200, LAST)], [None] * 4)

    def test_lateness_does_not_matter(self):
        self.assertEqual([display(Hall(3, (2, 0), (1,), lateness), 3) for lateness in (0, 1, 99)], [0, 0, 0])

    def test_invalid_ticks(self):
        for hall in mixed_halls():
            for tick in OUT_OF_RANGE:
                with self.subTest(text=hall.text, tick=tick):
                    self.assertRaises(InvalidTick, display, hall, tick)


class TestLongestWait(unittest.TestCase):
    def test_against_a_simulation(self):
        for parts in simulation.hall_parts():
            if sum(parts[1]) * len(parts[2]) > sum(parts[2]) * len(parts[1]):
                expected = None
            else:
                times = simulation.times(simulation.play(parts[1], parts[2], 5 * simulation.period_of(parts)))
                expected = max([ticks[1] - ticks[0] for ticks in times.values() if len(ticks) == 2], default=0)
            with self.subTest(parts=parts):
                self.assertEqual(longest_wait(Hall(*parts)), expected)

    def test_nobody_takes(self):
        for calls in ((0,), (9, 0)):
            self.assertEqual(longest_wait(Hall(2, (0, 0), calls, 0)), 0)

    def test_nobody_is_called(self):
        self.assertIsNone(longest_wait(Hall(2, (0, 1), (0,), 0)))

    def test_no_greatest(self):
        self.assertIsNone(longest_wait(Hall(2, (1,), (0, 1), 0)))
        self.assertIsNone(longest_wait(Hall(2, (9,) * 12, (9,) * 11 + (8,), 0)))

    def test_called_at_once(self):
        self.assertEqual(longest_wait(Hall(2, (1, 3), (3,), 99)), 0)

    def test_known(self):
        self.assertEqual(longest_wait(Hall(2, (9,) + (0,) * 11, (1,) * 9 + (0, 0, 0), 0)), 8)
        self.assertEqual(longest_wait(Hall(2, (0,) * 11 + (9,), (9,) + (0,) * 11, 0)), 1)
        self.assertEqual(longest_wait(Hall(2, (9,) + (0,) * 11, (0,) * 11 + (9,), 0)), 11)

    def test_the_longest_wait_comes_after_the_first_period(self):
        # The visitor of tick 3 waits one tick and so delays the second one of tick 4 until tick 6.
        hall = Hall(2, (2, 0, 0, 1), (1, 1, 1, 0), 0)
        self.assertEqual([ticket_times(hall, number) for number in range(5)],
                         [(0, 0), (0, 1), (3, 4), (4, 5), (4, 6)])
        self.assertEqual(longest_wait(hall), 2)


if __name__ == "__main__":
    unittest.main()
