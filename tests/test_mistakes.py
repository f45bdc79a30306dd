"""Promises 1 and 7: the open tickets with some digits, and mistaken visitors."""

import unittest

import simulation
from ticketwrap.clashes import first_clash, first_mistake, holders, mistaken
from ticketwrap.errors import InvalidDigits, InvalidTick, TooMany
from ticketwrap.halls import Hall

LAST = 10 ** 18
NO_TICKS = (-1, -LAST, LAST + 1, 10 ** 30, True, False, None, "", "0", (), (0,), [], [0])
NO_DIGITS = (-1, -LAST, 10 ** 30, True, False, None, "", "0", (), (0,), [], [0])
SLOW_TAKES = (0,) + (1,) * 11
SLOW_CALLS = (0,) + (1,) * 10


def mistakes_of(called, waiting, modulus):
    return sorted((number, other) for number in called for other in waiting if (other - number) % modulus == 0)


class TestHolders(unittest.TestCase):
    def test_against_a_simulation(self):
        for parts in simulation.small_hall_parts():
            hall = Hall(*parts)
            ticks = simulation.ticks_of(parts[1], parts[2], parts[3], 30)
            with self.subTest(parts=parts):
                for tick, (_, _, may_come) in enumerate(ticks):
                    for digits in range(parts[0]):
                        self.assertEqual(holders(hall, tick, digits),
                                         [number for number in may_come if number % parts[0] == digits])

    def test_first_and_last_tick(self):
        hall = Hall(3, (2, 0), (1,), 2)
        self.assertEqual([holders(hall, 0, digits) for digits in range(3)], [[0], [1], []])
        first = LAST - 2
        self.assertEqual([holders(hall, LAST, number % 3) for number in (first, first + 1, first + 2)],
                         [[first, first + 3], [first + 1], [first + 2]])

    def test_largest_modulus(self):
        hall = Hall(10000, (9,), (0,), 0)
        self.assertEqual([holders(hall, 1110, digits) for digits in (0, 9998, 9999)], [[0], [9998], []])
        self.assertEqual([holders(hall, 1111, digits) for digits in (0, 9998, 9999)], [[0, 10000], [9998], [9999]])
        self.assertRaises(InvalidDigits, holders, hall, 0, 10000)

    def test_nobody(self):
        self.assertEqual(holders(Hall(2, (0,), (9,), 99), LAST, 1), [])
        self.assertEqual(holders(Hall(2, (3, 0), (3,), 0), LAST - 1, 1), [])

    def test_1000_and_more(self):
        hall = Hall(2, (1,), (0,), 0)
        # 2,001 open tickets are 1,000 pairs, and one more with the digits 0.
        self.assertEqual(holders(hall, 2000, 1), list(range(1, 2001, 2)))
        self.assertEqual(holders(hall, 2000, 0), list(range(0, 2001, 2)))
        self.assertRaises(TooMany, holders, hall, 2001, 0)
        self.assertRaises(TooMany, holders, hall, 2001, 1)
        self.assertRaises(TooMany, holders, hall, LAST, 1)
        hall = Hall(10000, (9,), (0,), 0)
        self.assertEqual(len(holders(hall, 1112221, 9999)), 1000)
        self.assertRaises(TooMany, holders, hall, 1112222, 9999)

    def test_invalid_ticks_and_digits(self):
        for hall in (Hall(3, (2, 0), (1,), 2), Hall(3, (0,), (0,), 2)):
            for tick in NO_TICKS:
                with self.subTest(tick=tick):
                    self.assertRaises(InvalidTick, holders, hall, tick, 0)
            for digits in NO_DIGITS + (3, 4):
                with self.subTest(digits=digits):
                    self.assertRaises(InvalidDigits, holders, hall, 0, digits)

    def test_order_of_errors(self):
        hall = Hall(2, (1,), (0,), 0)
        for digits in NO_DIGITS + (2,):
            with self.subTest(digits=digits):
                self.assertRaises(InvalidTick, holders, hall, -1, digits)
                self.assertRaises(InvalidTick, holders, hall, True, digits)
                self.assertRaises(InvalidTick, holders, hall, LAST + 1, digits)
                self.assertRaises(InvalidDigits, holders, hall, LAST, digits)

    def test_the_list_is_new(self):
        hall = Hall(3, (2, 0), (1,), 2)
        holders(hall, 2, 0).append(9)
        self.assertEqual(holders(hall, 2, 0), [0, 3])


class TestMistaken(unittest.TestCase):
    def test_against_a_simulation(self):
        found = 0
        for parts in simulation.small_hall_parts():
            hall = Hall(*parts)
            ticks = simulation.ticks_of(parts[1], parts[2], parts[3], 40)
            with self.subTest(parts=parts):
                for tick, (called, waiting, _) in enumerate(ticks):
                    expected = mistakes_of(called, waiting, parts[0])
                    self.assertEqual(mistaken(hall, tick), expected)
                    found += len(expected) > 2
        self.assertGreater(found, 100)

    def test_ascending(self):
        hall = Hall(2, (9,), (2,), 0)
        self.assertEqual(mistaken(hall, 0), [(0, 2), (0, 4), (0, 6), (0, 8), (1, 3), (1, 5), (1, 7)])
        self.assertTrue(all(type(pair) is tuple for pair in mistaken(hall, 0)))

    def test_called_visitors_are_not_mistaken(self):
        self.assertEqual(mistaken(Hall(2, (9,), (8,), 0), 0), [(0, 8), (2, 8), (4, 8), (6, 8)])
        self.assertEqual(mistaken(Hall(2, (9,), (9,), 99), 0), [])
        self.assertEqual(mistaken(Hall(2, (9,), (9,), 99), LAST), [])

    def test_no_calls(self):
        for tick in (0, 5, LAST):
            self.assertEqual(mistaken(Hall(2, (9,), (0,), 99), tick), [])
        # In even ticks nobody is called, however many wait.
        self.assertEqual(mistaken(Hall(2, (9,), (0, 1), 0), LAST), [])

    def test_nobody_takes(self):
        self.assertEqual(mistaken(Hall(2, (0,), (9,), 99), LAST), [])

    def test_last_tick(self):
        hall = Hall(2, (9, 0, 0), (3,), 0)
        self.assertEqual(LAST % 3, 1)
        called = 3 * LAST
        self.assertEqual(mistaken(hall, LAST), mistakes_of(range(called, called + 3), range(called + 3, called + 6), 2))

    def test_1000_and_more(self):
        hall = Hall(2, (2,), (1,), 0)
        # After tick t, t + 1 visitors wait.
        self.assertEqual(len(mistaken(hall, 2000)), 1000)
        self.assertEqual(mistaken(hall, 2000)[0], (2000, 2002))
        self.assertRaises(TooMany, mistaken, hall, 2001)
        self.assertRaises(TooMany, mistaken, hall, LAST)
        hall = Hall(10, (9,), (4,), 0)
        # After tick t, 5 t + 5 visitors wait; 250 tens of them with four calls are 1,000.
        self.assertEqual(len(mistaken(hall, 500)), 1000)
        self.assertRaises(TooMany, mistaken, hall, 501)

    def test_the_calls_that_happen_count(self):
        # Nine calls are possible in each tick, and one visitor is called.
        self.assertEqual(mistaken(Hall(2, (1,), (9,), 0), LAST), [])

    def test_invalid_ticks(self):
        for hall in (Hall(3, (2, 0), (1,), 2), Hall(3, (0,), (0,), 2), Hall(2, (2,), (1,), 0)):
            for tick in NO_TICKS:
                with self.subTest(tick=tick):
                    self.assertRaises(InvalidTick, mistaken, hall, tick)

    def test_the_list_is_new(self):
        hall = Hall(2, (1,), (0, 1), 0)
        mistaken(hall, 3).clear()
        self.assertEqual(mistaken(hall, 3), [(1, 3)])


class TestFirstMistake(unittest.TestCase):
    def test_against_a_simulation(self):
        found = 0
        for parts in simulation.small_hall_parts():
            ticks = 3 * simulation.period_of(parts)
            if simulation.grows(parts):
                ticks += (parts[0] + 10) * simulation.period_of(parts)
            expected = None
            for tick, (called, waiting, _) in enumerate(simulation.ticks_of(parts[1], parts[2], 0, ticks)):
                if mistakes_of(called, waiting, parts[0]):
                    expected = tick
                    break
            found += expected is not None
            with self.subTest(parts=parts):
                self.assertEqual(first_mistake(Hall(*parts)), expected)
        self.assertTrue(100 < found < len(simulation.small_hall_parts()) - 50)

    def test_never(self):
        self.assertIsNone(first_mistake(Hall(2, (0,), (9,), 0)))
        self.assertIsNone(first_mistake(Hall(2, (9,), (0,), 0)))
        self.assertIsNone(first_mistake(Hall(2, (0,), (0,), 0)))
        self.assertIsNone(first_mistake(Hall(2, (9,), (9,), 99)))
        self.assertIsNone(first_mistake(Hall(9, (9, 0, 0), (3,), 99)))

    def test_known(self):
        self.assertEqual(first_mistake(Hall(8, (9, 0, 0), (3,), 99)), 0)
        self.assertEqual(first_mistake(Hall(8, (9,), (8,), 0)), 0)
        self.assertEqual(first_mistake(Hall(8, (9,), (1,), 0)), 0)
        self.assertEqual(first_mistake(Hall(9, (9,), (1,), 0)), 1)
        self.assertEqual(first_mistake(Hall(9, (9, 0), (0, 1), 0)), 3)

    def test_largest_modulus(self):
        # Before the calls of tick t, t + 2 visitors are present.
        self.assertEqual(first_mistake(Hall(10000, (2,), (1,), 0)), 9999)
        # The clash happens earlier, in a tick without calls.
        hall = Hall(10000, (1,), (0,) * 11 + (1,), 0)
        self.assertEqual([first_clash(hall)[0], first_mistake(hall)], [10909, 10919])

    def test_late_mistakes(self):
        for calls in (SLOW_CALLS, SLOW_CALLS[1:] + (0,)):
            taken, called = simulation.counts(SLOW_TAKES, calls, 1330000)
            tick = [tick for tick in range(1330000) if taken[tick + 1] - called[tick] > 10000
                    and called[tick] < called[tick + 1] < taken[tick + 1]][0]
            with self.subTest(calls=calls):
                self.assertGreater(tick, 1300000)
                hall = Hall(10000, SLOW_TAKES, calls, 99)
                self.assertEqual(first_mistake(hall), tick)
                self.assertEqual([len(mistaken(hall, tick)), mistaken(hall, tick - 1)], [1, []])

    def test_late_growth_against_counts(self):
        for modulus in (9, 50, 1000):
            for takes, calls in (((3, 0), (1, 1, 2)), ((9, 0, 0, 0, 0), (2, 1)), ((0, 9, 0, 9), (0, 4, 9)),
                                 ((1,), (0, 1)), ((5, 5, 0), (3,)), ((1,), (0, 0, 0, 3)), ((9,), (0, 9))):
                taken, called = simulation.counts(takes, calls, 15000)
                tick = [tick for tick in range(15000) if taken[tick + 1] - called[tick] > modulus
                        and called[tick] < called[tick + 1] < taken[tick + 1]][0]
                with self.subTest(modulus=modulus, takes=takes, calls=calls):
                    self.assertEqual(first_mistake(Hall(modulus, takes, calls, 5)), tick)


if __name__ == "__main__":
    unittest.main()
