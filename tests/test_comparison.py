"""Promise 10: the first difference of two displays, and the first error of a log."""

import random
import unittest
from math import lcm

import simulation
from ticketwrap.comparison import first_difference, first_error
from ticketwrap.errors import TooMany
from ticketwrap.halls import Hall

NO_LOGS = (None, True, False, 0, 1, -1, "", "0", (), (0,), (0, 1, 2))
NO_ITEMS = (True, False, "", "0", "1", (), (0,), (1, 0), [], [0], -1, 3, 10 ** 30, -10 ** 30)
MANY_TICKS = 24000


def first_different(parts, others):
    """Return the first difference, counted tick by tick as long as there can be one, or None."""
    longest = max(simulation.period_of(parts), simulation.period_of(others))
    ticks = 3 * longest + lcm(simulation.cycle_of(parts), simulation.cycle_of(others))
    pairs = zip(simulation.displays(parts, ticks), simulation.displays(others, ticks))
    for tick, (one, other) in enumerate(pairs):
        if one != other:
            return tick, one, other
    return None


def swapped(difference):
    if difference is None:
        return None
    tick, one, other = difference
    return tick, other, one


def repeated(source, parts):
    """Return the parts of the same hall with patterns that are written several times over."""
    modulus, takes, calls, lateness = parts
    return (modulus, takes * source.randint(1, 12 // len(takes)), calls * source.randint(1, 12 // len(calls)),
            lateness)


def changed(source, parts):
    """Return the parts of a hall with another modulus or another item of a pattern."""
    modulus, takes, calls, lateness = parts
    kind = source.randrange(3)
    if kind == 0:
        return source.choice([other for other in range(2, 12) if other != modulus]), takes, calls, lateness
    pattern = list(parts[kind])
    place = source.randrange(len(pattern))
    pattern[place] = source.choice([item for item in range(10) if item != pattern[place]])
    return parts[:kind] + (tuple(pattern),) + parts[kind + 1:]


class TestFirstDifference(unittest.TestCase):
    def assert_difference(self, parts, others, expected):
        with self.subTest(parts=parts, others=others):
            hall, other = Hall(*parts), Hall(*others)
            self.assertEqual(first_difference(hall, other), expected)
            self.assertEqual(first_difference(other, hall), swapped(expected))
            self.assertEqual(first_difference(hall, other), expected)

    def test_pairs_of_halls(self):
        all_parts = simulation.small_hall_parts()[:14 + 250]
        source = random.Random(30)
        for parts in all_parts:
            others = source.choice(all_parts)
            self.assert_difference(parts, others, first_different(parts, others))

    def test_two_moduli_and_the_same_patterns(self):
        source = random.Random(31)
        for modulus, takes, calls, lateness in simulation.small_hall_parts()[:264]:
            parts = (modulus, takes, calls, lateness)
            others = (source.choice((2, 3, 4, 6, 8, 9, 12)), takes, calls, lateness)
            self.assert_difference(parts, others, first_different(parts, others))

    def test_halls_changed_in_one_place(self):
        source = random.Random(32)
        found = []
        for parts in simulation.small_hall_parts()[:264]:
            others = changed(source, parts)
            found.append(first_different(parts, others))
            self.assert_difference(parts, others, found[-1])
        # Some changes are seen at once, some late, and some never.
        self.assertIn(None, found)
        self.assertIn(0, [difference[0] for difference in found if difference])
        self.assertTrue(max(difference[0] for difference in found if difference) > 9)

    def test_the_same_hall_written_differently(self):
        source = random.Random(33)
        for parts in simulation.small_hall_parts()[:264]:
            self.assert_difference(repeated(source, parts), repeated(source, parts), None)

    def test_lateness_is_not_seen(self):
        for lateness in (0, 1, 99):
            self.assert_difference((3, (2, 0), (1,), 2), (3, (2, 0), (1,), lateness), None)

    def test_known(self):
        for parts, others, expected in (
                ((3, (2, 0), (1,), 2), (4, (2, 0), (1,), 2), (3, 0, 3)),
                ((2, (1,), (1,), 0), (2, (0, 1), (1,), 0), (0, 0, None)),
                ((5, (2,), (1,), 0), (5, (2,), (2,), 0), (0, 0, 1)),
                # Both halls call one visitor first, but only the first one goes on.
                ((5, (1,), (1,), 0), (5, (1,), (1, 0), 0), (1, 1, 0)),
                # Three tickets are called instead of one: this is no difference modulo 2.
                ((2, (9,), (1,), 0), (2, (9,), (3,), 0), None),
                # Whom nobody calls nobody sees.
                ((5, (0,), (9,), 0), (10000, (9,) * 12, (0,), 0), None),
                ((5, (0,), (9,), 0), (5, (0,) * 11 + (1,), (9,), 0), (11, None, 0)),
                # In the first period, nobody is called.
                ((2, (0, 0, 1), (0, 1, 0), 0), (3, (0, 0, 1), (0, 1, 0), 0), (10, 0, 2)),
                ((2, (0,), (1,), 0), (2, (0, 0, 1), (0, 1, 0), 0), (4, None, 0)),
                ((4999, (1,), (1,), 0), (9998, (1,), (1,), 0), (4999, 0, 4999)),
                ((4999, (1, 0), (1,), 0), (9998, (1, 0), (1,), 0), (9998, 0, 4999)),
                ((5000, (9,), (9,), 0), (10000, (9,), (9,), 0), (555, 3, 5003))):
            self.assert_difference(parts, others, expected)


class TestTooMany(unittest.TestCase):
    def assert_too_many(self, parts, others):
        with self.subTest(parts=parts, others=others):
            self.assertRaises(TooMany, first_difference, Hall(*parts), Hall(*others))
            self.assertRaises(TooMany, first_difference, Hall(*others), Hall(*parts))

    def assert_accepted(self, parts, others, expected):
        with self.subTest(parts=parts, others=others):
            self.assertEqual(first_difference(Hall(*parts), Hall(*others)), expected)
            self.assertEqual(first_difference(Hall(*others), Hall(*parts)), swapped(expected))

    def test_exactly_20000(self):
        # 2 + 2 * 9999, 1 + 7 * 2857; and 12 + 12 * 1665, which is 19992
        self.assert_accepted((9999, (1, 0), (1, 0), 0), (9999, (1, 0), (1,), 3), None)
        self.assert_accepted((7, (1,), (1,), 0), (2857, (1,), (1,), 0), (7, 0, 7))
        self.assert_accepted((1665, (1,) + (0,) * 11, (1,), 0), (1665, (1,) + (0,) * 11, (2,), 0), None)

    def test_more_than_20000(self):
        # 1 + 20000, 2 + 2 * 10000, 12 + 12 * 1666
        self.assert_too_many((32, (1,), (1,), 0), (625, (1,), (1,), 0))
        self.assert_too_many((10000, (1, 0), (1, 0), 0), (10000, (1, 0), (1,), 3))
        self.assert_too_many((1666, (1,) + (0,) * 11, (1,), 0), (1666, (1,) + (0,) * 11, (2,), 0))
        self.assert_too_many((10000, (1,), (1,), 0), (9999, (1,), (1,), 0))

    def test_the_greater_period_counts(self):
        # 2 + 19998, where the other period is 1; 3 + 19998, where it is 1 again
        self.assert_accepted((9999, (1, 0), (1, 0), 0), (3, (1,), (1,), 0), (1, 0, 1))
        self.assert_too_many((6666, (1, 0, 0), (1,), 0), (2, (1,), (1,), 0))

    def test_several_calls_in_a_period(self):
        # The display repeats after 5000 ticks, not after 10000; and after two periods of 2 ticks.
        self.assert_accepted((10000, (2,), (2,), 0), (10000, (2, 2), (2,), 0), None)
        self.assert_accepted((10000, (4, 4), (2,), 0), (10000, (9,), (2,), 0), None)
        self.assert_accepted((18, (9, 0), (9, 0), 0), (9, (9,), (9, 0), 0), (2, 17, 8))

    def test_calls_of_the_first_period_do_not_count(self):
        # In the first period nobody is called, and then one visitor in each: 3 + 3 * 6665, 3 + 3 * 6666.
        self.assert_accepted((6665, (0, 0, 1), (0, 1, 0), 0), (6665, (0, 0, 1), (0, 1, 0), 9), None)
        self.assert_too_many((6666, (0, 0, 1), (0, 1, 0), 0), (6666, (0, 0, 1), (0, 1, 0), 9))

    def test_halls_that_differ_at_once(self):
        self.assert_too_many((10000, (1,), (1,), 0), (9999, (2,), (2,), 0))

    def test_all_pairs_of_halls_that_repeat_late(self):
        source = random.Random(34)
        accepted = 0
        for _ in range(60):
            pairs = []
            for _ in range(2):
                takes = simulation.pattern(source, 12, 9)
                pairs.append((source.randint(2, 400), takes, simulation.pattern(source, 2, 9), 0))
            parts, others = pairs
            longest = max(simulation.period_of(parts), simulation.period_of(others))
            if longest + lcm(simulation.cycle_of(parts), simulation.cycle_of(others)) > 20000:
                self.assert_too_many(parts, others)
            else:
                self.assert_accepted(parts, others, first_different(parts, others))
                accepted += 1
        self.assertTrue(0 < accepted < 60)


class TestFirstError(unittest.TestCase):
    def test_logs_of_a_hall(self):
        source = random.Random(35)
        for parts in simulation.small_hall_parts():
            hall = Hall(*parts)
            log = simulation.displays(parts, source.randint(1, 40))
            place = source.randrange(len(log))
            with self.subTest(parts=parts, place=place):
                self.assertIsNone(first_error(hall, log))
                for wrong in (parts[0], -1, "x", True, (log[place],), None if log[place] is not None else 0):
                    self.assertEqual(first_error(hall, log[:place] + [wrong] + log[place + 1:]), place)
                    self.assertEqual(first_error(hall, log[:place] + [wrong] * 3), place)

    def test_logs_of_one_hall_for_another(self):
        source = random.Random(36)
        all_parts = simulation.small_hall_parts()
        for parts in all_parts:
            others = source.choice((changed(source, parts), source.choice(all_parts)))
            log = simulation.displays(others, 50)
            shown = simulation.displays(parts, 50)
            wrong = [tick for tick in range(50) if log[tick] != shown[tick]]
            with self.subTest(parts=parts, others=others):
                self.assertEqual(first_error(Hall(*parts), log), wrong[0] if wrong else None)

    def test_empty_log(self):
        self.assertIsNone(first_error(Hall(3, (2, 0), (1,), 2), []))
        self.assertIsNone(first_error(Hall(3, (0,), (0,), 0), []))

    def test_no_list(self):
        for hall in (Hall(3, (2, 0), (1,), 2), Hall(3, (0,), (1,), 2)):
            for log in NO_LOGS:
                with self.subTest(log=log):
                    found = first_error(hall, log)
                    self.assertEqual(found, 0)
                    self.assertIs(type(found), int)

    def test_items_of_any_kind(self):
        # The display shows 0, 1, 2, 0, 1, 2, ..
        hall = Hall(3, (1,), (1,), 0)
        for item in NO_ITEMS + (None,):
            for place in range(6):
                with self.subTest(item=item, place=place):
                    self.assertEqual(first_error(hall, [0, 1, 2, 0, 1, 2][:place] + [item]), place)

    def test_nothing_is_shown(self):
        hall = Hall(3, (0, 0, 1), (1,), 0)
        self.assertIsNone(first_error(hall, [None, None, 0, 0, 0, 1]))
        for item in NO_ITEMS + (0, 1, 2):
            with self.subTest(item=item):
                self.assertEqual(first_error(hall, [None, item, 0]), 1)
        self.assertEqual(first_error(hall, [None, None, None]), 2)

    def test_true_and_false_are_no_digits(self):
        hall = Hall(2, (1,), (1,), 0)
        self.assertEqual([first_error(hall, [False]), first_error(hall, [0, True]), first_error(hall, [0, 1, False])],
                         [0, 1, 2])

    def test_long_log(self):
        parts = (10000, (1, 0), (1,), 0)
        log = simulation.displays(parts, MANY_TICKS)
        self.assertIsNone(first_error(Hall(*parts), log))
        self.assertEqual(first_error(Hall(9999, (1, 0), (1,), 0), log), 19998)

    def test_the_log_stays_as_it_is(self):
        log = [0, 1, True, None, "2", [3]]
        inner = log[5]
        self.assertEqual(first_error(Hall(3, (1,), (1,), 0), log), 2)
        self.assertEqual([repr(log), log[5] is inner], ["[0, 1, True, None, '2', [3]]", True])


if __name__ == "__main__":
    unittest.main()
