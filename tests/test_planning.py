"""Promises 1, 6 and 9: the modulus, the lateness or the additional calls with which nothing clashes."""

import unittest
from itertools import combinations_with_replacement

import simulation
from ticketwrap.clashes import first_clash
from ticketwrap.errors import InvalidLimit
from ticketwrap.halls import Hall
from ticketwrap.planning import greatest_lateness, least_modulus, plan_calls

NO_LIMITS = (-1, 5, 6, 10 ** 30, -10 ** 30, True, False, None, "", "2", (), (2,), [], [2])
SLOW_TAKES = (0,) + (1,) * 11
SLOW_CALLS = (0,) + (1,) * 10


def alike(numbers, modulus):
    return len({number % modulus for number in numbers}) < len(numbers)


def clashes(modulus, takes, calls, lateness):
    """Return whether open tickets of a hall have the same digits, after a count of all of them."""
    parts = (modulus, takes, calls, lateness)
    if simulation.grows(parts):
        return True
    ticks = simulation.ticks_of(takes, calls, lateness, 3 * simulation.period_of(parts) + lateness)
    return any(alike(may_come, modulus) for _, _, may_come in ticks)


def plan_of(parts, limit):
    """Return the plan of a hall, after a try of all places."""
    modulus, takes, calls, lateness = parts
    for many in range(limit + 1):
        for plan in sorted(combinations_with_replacement(range(len(calls)), many)):
            items = list(calls)
            for place in plan:
                items[place] += 1
            if max(items) <= 9 and not clashes(modulus, takes, tuple(items), lateness):
                return plan
    return None


class TestLeastModulus(unittest.TestCase):
    def test_against_a_simulation(self):
        for parts in simulation.small_hall_parts():
            expected = None
            if not simulation.grows(parts):
                expected = 2
                while clashes(expected, *parts[1:]):
                    expected += 1
            with self.subTest(parts=parts):
                self.assertEqual(least_modulus(Hall(*parts)), expected)

    def test_the_present_modulus_does_not_matter(self):
        for modulus in (2, 3, 4, 5, 10000):
            self.assertEqual(least_modulus(Hall(modulus, (2, 0), (1,), 2)), 4)

    def test_from_2_on(self):
        for takes, calls, lateness in (((0,), (0,), 99), ((0,), (9,), 0), ((1,), (1,), 0), ((1, 1), (1,), 1)):
            self.assertEqual(least_modulus(Hall(7, takes, calls, lateness)), 2)
        self.assertEqual(least_modulus(Hall(7, (1,), (1,), 2)), 3)

    def test_large(self):
        self.assertEqual(least_modulus(Hall(2, (9,), (9,), 99)), 900)
        hall = Hall(2, (9,) * 6 + (0,) * 6, (0,) * 6 + (9,) * 6, 99)
        taken, called = simulation.counts(hall.takes, hall.calls, 300)
        most = max([taken[tick + 1] - called[max(tick - 99, 0)] for tick in range(300)])
        self.assertEqual(least_modulus(hall), most)
        self.assertIsNone(first_clash(Hall(most, hall.takes, hall.calls, 99)))
        self.assertIsNotNone(first_clash(Hall(most - 1, hall.takes, hall.calls, 99)))

    def test_none(self):
        for takes, calls in (((1,), (0,)), ((1,), (0, 1)), (SLOW_TAKES, SLOW_CALLS)):
            self.assertIsNone(least_modulus(Hall(10000, takes, calls, 0)))


class TestGreatestLateness(unittest.TestCase):
    def test_against_a_simulation(self):
        found = []
        for parts in simulation.small_hall_parts()[:200]:
            expected = None
            for lateness in range(100):
                if clashes(*parts[:3], lateness):
                    break
                expected = lateness
            found.append(expected)
            with self.subTest(parts=parts):
                self.assertEqual(greatest_lateness(Hall(*parts)), expected)
        self.assertTrue({None, 0, 1, 2, 3, 99} <= set(found))

    def test_the_present_lateness_does_not_matter(self):
        for lateness in (0, 1, 2, 3, 99):
            self.assertEqual(greatest_lateness(Hall(3, (2, 0), (1,), lateness)), 1)

    def test_known(self):
        self.assertEqual([greatest_lateness(Hall(modulus, (1,), (1,), 0)) for modulus in (2, 3, 99, 100, 101, 10000)],
                         [1, 2, 98, 99, 99, 99])
        self.assertEqual([greatest_lateness(Hall(modulus, (9,), (9,), 0)) for modulus in (8, 9, 17, 18, 899, 900)],
                         [None, 0, 0, 1, 98, 99])

    def test_nothing_is_taken(self):
        self.assertEqual(greatest_lateness(Hall(2, (0,), (0,), 0)), 99)
        self.assertEqual(greatest_lateness(Hall(2, (0,), (9, 0), 50)), 99)

    def test_none(self):
        for takes, calls in (((1,), (0,)), ((1,), (0, 1)), (SLOW_TAKES, SLOW_CALLS)):
            self.assertIsNone(greatest_lateness(Hall(10000, takes, calls, 0)))


class TestPlanCalls(unittest.TestCase):
    def test_against_all_places(self):
        lengths = []
        for parts in simulation.small_hall_parts()[:300]:
            for limit in range(5):
                expected = plan_of(parts, limit)
                lengths.append(expected if expected is None else len(expected))
                with self.subTest(parts=parts, limit=limit):
                    self.assertEqual(plan_calls(Hall(*parts), limit), expected)
        self.assertEqual({None, 0, 1, 2, 3, 4}, set(lengths))

    def test_nothing_to_do(self):
        for limit in range(5):
            self.assertEqual(plan_calls(Hall(4, (2, 0), (1,), 2), limit), ())
            self.assertEqual(plan_calls(Hall(2, (0,), (0,), 99), limit), ())
            self.assertEqual(plan_calls(Hall(2, (0,), (9,) * 12, 99), limit), ())
            self.assertEqual(plan_calls(Hall(9, (9,), (9,), 0), limit), ())

    def test_limits(self):
        hall = Hall(2, (9,), (5,), 0)
        self.assertEqual([plan_calls(hall, limit) for limit in range(5)], [None] * 5)
        hall = Hall(9, (9,), (5,), 0)
        self.assertEqual([plan_calls(hall, limit) for limit in range(5)], [None, None, None, None, (0, 0, 0, 0)])
        hall = Hall(9, (9,), (4,), 0)
        self.assertEqual([plan_calls(hall, limit) for limit in range(5)], [None] * 5)
        hall = Hall(9, (9,), (8,), 0)
        self.assertEqual([plan_calls(hall, limit) for limit in range(5)], [None, (0,), (0,), (0,), (0,)])

    def test_items_remain_at_most_9(self):
        # Only a tenth call in tick 0 would help.
        self.assertIsNone(plan_calls(Hall(9, (9,), (9, 0), 0), 4))
        self.assertEqual(plan_calls(Hall(18, (9, 9), (9, 5), 0), 4), (1, 1, 1, 1))
        self.assertEqual(plan_calls(Hall(9, (9, 9), (9, 8), 0), 4), (1,))
        self.assertEqual(plan_calls(Hall(9, (9, 9), (8, 9), 0), 4), (0,))
        self.assertEqual(plan_calls(Hall(9, (9, 9, 9), (8, 9, 7), 0), 4), (0, 2, 2))
        self.assertIsNone(plan_calls(Hall(9, (9, 9, 9), (8, 9, 7), 0), 2))

    def test_ties(self):
        # Each place helps, and the first one wins.
        self.assertEqual(plan_calls(Hall(9, (1,), (1, 1, 0), 0), 4), (0,))
        self.assertEqual(plan_calls(Hall(9, (1,), (0, 1, 1), 0), 4), (0,))
        self.assertEqual(plan_calls(Hall(9, (1,), (9, 0, 0, 0, 0, 0, 0, 0, 0, 0), 0), 4), (1,))
        # Repeated places come before others.
        self.assertEqual(plan_calls(Hall(9, (1,), (0, 0, 1), 0), 4), (0, 0))

    def test_shortest_before_first(self):
        # With another call at place 0, too, the tuple would come earlier, but it would be longer.
        self.assertFalse(clashes(5, (1,), (1, 2, 1), 4))
        self.assertFalse(clashes(5, (1,), (2, 2, 1), 4))
        self.assertEqual(plan_calls(Hall(5, (1,), (1, 2, 0), 4), 4), (2,))
        self.assertEqual(plan_calls(Hall(3, (0, 2, 1), (3, 1, 0), 2), 4), (1, 2))

    def test_largest_patterns(self):
        # Each of twelve places lacks a call: no four of them help.
        self.assertIsNone(plan_calls(Hall(10000, (9,) * 12, (8,) * 12, 99), 4))
        self.assertEqual(plan_calls(Hall(10000, (9,) * 12, (9,) * 8 + (8,) * 4, 99), 4), (8, 9, 10, 11))
        hall = Hall(10000, (9,) * 11, (8, 8) + (9,) * 8 + (8, 8), 99)
        self.assertEqual(plan_calls(hall, 4), (0, 1, 10, 11))
        self.assertIsNone(plan_calls(hall, 3))

    def test_the_plan_works(self):
        hall = Hall(2, (2, 2, 0, 0), (1,), 0)
        self.assertIsNotNone(first_clash(hall))
        self.assertEqual(plan_calls(hall, 1), (0,))
        self.assertIsNone(first_clash(Hall(2, (2, 2, 0, 0), (2,), 0)))
        self.assertEqual(hall.calls, (1,))

    def test_it_is_a_tuple_of_integers(self):
        plan = plan_calls(Hall(9, (9,), (5,), 0), 4)
        self.assertEqual([type(plan)] + [type(place) for place in plan], [tuple, int, int, int, int])

    def test_invalid_limits(self):
        for hall in (Hall(3, (2, 0), (1,), 2), Hall(2, (0,), (0,), 0), Hall(2, (1,), (0,), 0)):
            for limit in NO_LIMITS:
                with self.subTest(limit=limit):
                    self.assertRaises(InvalidLimit, plan_calls, hall, limit)


if __name__ == "__main__":
    unittest.main()
