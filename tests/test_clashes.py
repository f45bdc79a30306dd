"""Promises 1 and 6: open tickets, and those that look the same."""

import unittest

import simulation
from ticketwrap.clashes import first_clash, least_colors, most_open, open_tickets
from ticketwrap.errors import InvalidTick
from ticketwrap.halls import Hall

LAST = 10 ** 18
NO_TICKS = (-1, -LAST, LAST + 1, 10 ** 30, True, False, None, "", "0", (), (0,), [], [0])
SLOW_TAKES = (0,) + (1,) * 11
SLOW_CALLS = (0,) + (1,) * 10


def open_lists(parts, ticks):
    return [may_come for _, _, may_come in simulation.ticks_of(parts[1], parts[2], parts[3], ticks)]


def enough_ticks(parts):
    """Return how many ticks show all that a hall without growth does."""
    return 3 * simulation.period_of(parts) + parts[3]


def alike(numbers, modulus):
    return len({number % modulus for number in numbers}) < len(numbers)


def clash_of(numbers, modulus):
    first = min(numbers)
    return first, [number for number in numbers if number > first and number % modulus == first % modulus][0]


class TestOpenTickets(unittest.TestCase):
    def test_against_a_simulation(self):
        for parts in simulation.small_hall_parts() + simulation.hall_parts():
            hall = Hall(*parts)
            ticks = min(enough_ticks(parts), 120)
            taken, _ = simulation.counts(parts[1], parts[2], ticks)
            with self.subTest(parts=parts):
                for tick, numbers in enumerate(open_lists(parts, ticks)):
                    first = min(numbers, default=taken[tick + 1])
                    self.assertEqual(numbers, list(range(first, first + len(numbers))))
                    self.assertEqual(open_tickets(hall, tick), (first, len(numbers)))

    def test_it_is_a_tuple(self):
        self.assertIs(type(open_tickets(Hall(3, (2, 0), (1,), 2), 0)), tuple)

    def test_a_ticket_is_open_up_to_its_lateness(self):
        for lateness in (0, 1, 5, 99):
            hall = Hall(2, (1,) + (0,) * 11, (1,) + (0,) * 10, lateness)
            with self.subTest(lateness=lateness):
                for tick in range(150):
                    # Ticket n is taken in tick 12 n, and the calls of each multiple of 11 are for one visitor.
                    tickets = [(12 * n, 12 * n + -12 * n % 11) for n in range(13)]
                    numbers = [n for n, (take, call) in enumerate(tickets) if take <= tick <= call + lateness]
                    taken = tick // 12 + 1
                    self.assertEqual(open_tickets(hall, tick), (min(numbers, default=taken), len(numbers)))

    def test_none_is_open(self):
        self.assertEqual(open_tickets(Hall(2, (0,), (9,), 99), LAST), (0, 0))
        self.assertEqual([open_tickets(Hall(2, (3, 0), (3,), 0), tick) for tick in (0, 1, 2, 3)],
                         [(0, 3), (3, 0), (3, 3), (6, 0)])

    def test_first_and_last_tick(self):
        self.assertEqual([open_tickets(Hall(3, (2, 0), (1,), 2), tick) for tick in (0, LAST)],
                         [(0, 2), (LAST - 2, 4)])
        self.assertEqual(open_tickets(Hall(3, (9,), (0,), 99), LAST), (0, 9 * LAST + 9))
        self.assertEqual(open_tickets(Hall(3, (9,), (9,), 99), LAST), (9 * LAST - 891, 900))
        self.assertEqual(open_tickets(Hall(3, (9,), (9,), 99), 98), (0, 891))
        self.assertEqual(open_tickets(Hall(3, (9,), (9,), 99), 99), (0, 900))
        self.assertEqual(open_tickets(Hall(3, (9,), (9,), 99), 100), (9, 900))
        self.assertEqual(open_tickets(Hall(2, (1,), (0, 1), 0), LAST), (LAST // 2, LAST // 2 + 1))

    def test_invalid_ticks(self):
        for hall in (Hall(3, (2, 0), (1,), 2), Hall(3, (0,), (0,), 99)):
            for tick in NO_TICKS:
                with self.subTest(tick=tick):
                    self.assertRaises(InvalidTick, open_tickets, hall, tick)


class TestMostOpen(unittest.TestCase):
    def test_against_a_simulation(self):
        for parts in simulation.small_hall_parts():
            expected = None
            if not simulation.grows(parts):
                expected = max(map(len, open_lists(parts, enough_ticks(parts))))
            with self.subTest(parts=parts):
                self.assertEqual(most_open(Hall(*parts)), expected)

    def test_long_periods_against_counts(self):
        for parts in simulation.hall_parts():
            for lateness in (0, 1, 50, 99):
                expected = None
                if not simulation.grows(parts):
                    taken, called = simulation.counts(parts[1], parts[2], 4 * 132 + 99)
                    expected = max([taken[tick + 1] - called[max(tick - lateness, 0)] for tick in range(4 * 132 + 99)])
                with self.subTest(parts=parts, lateness=lateness):
                    self.assertEqual(most_open(Hall(parts[0], parts[1], parts[2], lateness)), expected)

    def test_nothing_is_taken(self):
        for calls in ((0,), (9, 0)):
            self.assertEqual(most_open(Hall(2, (0, 0), calls, 99)), 0)

    def test_no_greatest(self):
        for takes, calls in (((1,), (0,)), ((0, 0, 1), (0,)), ((1,), (0, 1)), (SLOW_TAKES, SLOW_CALLS)):
            self.assertIsNone(most_open(Hall(10000, takes, calls, 0)))

    def test_lateness_of_many_periods(self):
        self.assertEqual(most_open(Hall(2, (1,), (1,), 99)), 100)
        self.assertEqual(most_open(Hall(2, (9,), (9,), 99)), 900)
        self.assertEqual(most_open(Hall(2, (9, 0), (9,), 98)), 450)
        self.assertEqual(most_open(Hall(2, (9, 0), (9, 0), 99)), 450)
        self.assertEqual(most_open(Hall(2, (9, 0), (0, 9), 99)), 459)


class TestFirstClash(unittest.TestCase):
    def test_against_a_simulation(self):
        found = 0
        for parts in simulation.small_hall_parts():
            modulus = parts[0]
            ticks = enough_ticks(parts)
            if simulation.grows(parts):
                ticks += modulus * simulation.period_of(parts)
            expected = None
            for tick, numbers in enumerate(open_lists(parts, ticks)):
                if alike(numbers, modulus):
                    expected = (tick,) + clash_of(numbers, modulus)
                    break
            found += expected is not None
            with self.subTest(parts=parts):
                self.assertEqual(first_clash(Hall(*parts)), expected)
        self.assertTrue(100 < found < len(simulation.small_hall_parts()) - 50)

    def test_known(self):
        self.assertEqual(first_clash(Hall(2, (3,), (3,), 0)), (0, 0, 2))
        self.assertEqual(first_clash(Hall(2, (9,), (9,), 0)), (0, 0, 2))
        self.assertEqual(first_clash(Hall(4, (2,), (2,), 1)), None)
        self.assertEqual(first_clash(Hall(4, (2,), (2,), 2)), (2, 0, 4))
        self.assertEqual(first_clash(Hall(899, (9,), (9,), 99)), (99, 0, 899))
        self.assertIsNone(first_clash(Hall(900, (9,), (9,), 99)))
        # The visitor of tick 3 delays the second one of tick 4.
        self.assertEqual(first_clash(Hall(2, (2, 0, 0, 1), (1, 1, 1, 0), 0)), (4, 2, 4))

    def test_nothing_is_taken(self):
        for calls in ((0,), (9, 0)):
            self.assertIsNone(first_clash(Hall(2, (0, 0), calls, 99)))

    def test_nothing_is_called(self):
        self.assertEqual(first_clash(Hall(10000, (1,), (0,), 0)), (10000, 0, 10000))
        self.assertEqual(first_clash(Hall(10000, (0,) * 11 + (1,), (0,), 99)), (12 * 10001 - 1, 0, 10000))
        self.assertEqual(first_clash(Hall(10000, (9, 0), (0,), 99)), (2 * 1111, 0, 10000))

    def test_late_clashes(self):
        for lateness in (0, 1, 99):
            hall = Hall(10000, SLOW_TAKES, SLOW_CALLS, lateness)
            taken, called = simulation.counts(SLOW_TAKES, SLOW_CALLS, 1330000)
            tick = [tick for tick in range(1320000 - 132 * 102, 1330000)
                    if taken[tick + 1] - called[max(tick - lateness, 0)] > 10000][0]
            with self.subTest(lateness=lateness):
                self.assertGreater(tick, 1300000)
                self.assertEqual(hall.growth, 1)
                older = called[tick - lateness]
                self.assertEqual(first_clash(hall), (tick, older, older + 10000))

    def test_late_growth_against_counts(self):
        for modulus in (9, 50, 1000):
            for takes, calls in (((3, 0), (1, 1, 2)), ((9, 0, 0, 0, 0), (2, 1)), ((0, 9, 0, 9), (0, 4, 9)),
                                 ((1,), (0, 1)), ((5, 5, 0), (3,))):
                for lateness in (0, 3, 30):
                    taken, called = simulation.counts(takes, calls, 15000)
                    tick = [tick for tick in range(15000)
                            if taken[tick + 1] - called[max(tick - lateness, 0)] > modulus][0]
                    older = called[max(tick - lateness, 0)]
                    with self.subTest(modulus=modulus, takes=takes, calls=calls, lateness=lateness):
                        self.assertEqual(first_clash(Hall(modulus, takes, calls, lateness)),
                                         (tick, older, older + modulus))


class TestLeastColors(unittest.TestCase):
    def test_against_a_simulation(self):
        for parts in simulation.small_hall_parts():
            expected = None
            if not simulation.grows(parts):
                lists = open_lists(parts, enough_ticks(parts))
                expected = 1
                while any(alike(numbers, expected * parts[0]) for numbers in lists):
                    expected += 1
            with self.subTest(parts=parts):
                self.assertEqual(least_colors(Hall(*parts)), expected)

    def test_known(self):
        for modulus, colors in ((2, 450), (3, 300), (449, 3), (450, 2), (451, 2), (899, 2), (900, 1), (901, 1),
                                (10000, 1)):
            self.assertEqual(least_colors(Hall(modulus, (9,), (9,), 99)), colors)

    def test_nothing_is_taken(self):
        self.assertEqual(least_colors(Hall(2, (0,), (0,), 99)), 1)

    def test_no_number_of_colors(self):
        for takes, calls in (((1,), (0,)), ((1,), (0, 1)), (SLOW_TAKES, SLOW_CALLS)):
            self.assertIsNone(least_colors(Hall(10000, takes, calls, 0)))


if __name__ == "__main__":
    unittest.main()
