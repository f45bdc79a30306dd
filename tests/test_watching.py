"""Promises 1 and 8: what a watcher of the display can conclude."""

import random
import unittest

import simulation
from ticketwrap.errors import Contradiction, InvalidDigits, TooMany
from ticketwrap.halls import Hall
from ticketwrap.watching import Watcher

NO_DIGITS = (-1, -10 ** 30, 10 ** 30, True, False, "", "0", (), (0,), [], [0])
MOST_SEEN = 8


class Play:
    """All that happens in a hall, tick by tick, and what a watcher can conclude of it."""

    def __init__(self, parts):
        self.modulus = parts[0]
        self.first_ticks = range(simulation.period_of(parts) + simulation.cycle_of(parts))
        self.shown = []
        self.queues = [[]]
        last = None
        for now, waiting, _ in simulation.ticks_of(parts[1], parts[2], 0, len(self.first_ticks) + MOST_SEEN + 1):
            last = now[-1] % self.modulus if now else last
            self.shown.append(last)
            self.queues.append(waiting)

    def candidates(self, history):
        return [first for first in self.first_ticks if self.shown[first:first + len(history)] == history]

    def next_displays(self, history):
        found = {self.shown[first + len(history)] for first in self.candidates(history)}
        return sorted(found, key=lambda digits: -1 if digits is None else digits)

    def waits(self, history, digits):
        found = set()
        for first in self.candidates(history):
            queue = self.queues[first + len(history)]
            found |= {ahead for ahead, number in enumerate(queue) if number % self.modulus == digits}
        return sorted(found)


def state_of(watcher):
    return watcher.candidates, watcher.history


class TestAgainstASimulation(unittest.TestCase):
    def assert_state(self, watcher, play, history):
        self.assertEqual(watcher.history, history)
        self.assertEqual(watcher.candidates, play.candidates(history))
        self.assertEqual(watcher.next_displays, play.next_displays(history))
        for digits in range(play.modulus):
            self.assertEqual(watcher.waits(digits), play.waits(history, digits))

    def assert_wrong_displays(self, watcher, play, history):
        for digits in [None] + list(range(play.modulus)):
            if digits not in play.next_displays(history):
                self.assertRaises(Contradiction, watcher.see, digits)

    def test_up_to_eight_displays(self):
        source = random.Random(22)
        for parts in simulation.small_hall_parts():
            play = Play(parts)
            watcher = Watcher(Hall(*parts))
            first = source.choice(play.first_ticks)
            history = []
            with self.subTest(parts=parts, first=first):
                self.assert_state(watcher, play, history)
                for digits in play.shown[first:first + MOST_SEEN]:
                    self.assert_wrong_displays(watcher, play, history)
                    history.append(digits)
                    self.assertEqual(watcher.see(digits), len(play.candidates(history)))
                    self.assert_state(watcher, play, history)

    def test_several_displays_at_once(self):
        source = random.Random(23)
        for parts in simulation.small_hall_parts():
            play = Play(parts)
            watcher = Watcher(Hall(*parts))
            first = source.choice(play.first_ticks)
            many = source.randint(0, MOST_SEEN)
            displays = play.shown[first:first + MOST_SEEN]
            with self.subTest(parts=parts, first=first, many=many):
                self.assertEqual(watcher.see_all(*displays[:many]), len(play.candidates(displays[:many])))
                self.assert_state(watcher, play, displays[:many])
                self.assertEqual(watcher.see_all(*displays[many:]), len(play.candidates(displays)))
                self.assert_state(watcher, play, displays)


class TestCandidates(unittest.TestCase):
    def test_number(self):
        for parts, number in (
                ((3, (2, 0), (1,), 2), 8), ((2, (0,), (0,), 0), 2), ((2, (1,), (0,), 0), 2), ((7, (0, 0), (3,), 0), 4),
                ((7, (1,), (1,), 0), 8), ((6, (9,), (4,), 0), 4), ((4, (9,), (8,), 0), 2), ((10, (0, 1), (9,), 0), 22),
                # In the first period nobody is called, and then one visitor in each.
                ((5, (0, 0, 1), (0, 1, 0), 0), 18)):
            with self.subTest(parts=parts):
                self.assertEqual(Watcher(Hall(*parts)).candidates, list(range(number)))

    def test_5000_and_more(self):
        self.assertEqual(len(Watcher(Hall(4999, (1,), (1,), 0)).candidates), 5000)
        self.assertRaises(TooMany, Watcher, Hall(5000, (1,), (1,), 0))
        self.assertRaises(TooMany, Watcher, Hall(10000, (1,), (1,), 0))
        # Two visitors are called in each period of two ticks.
        self.assertEqual(len(Watcher(Hall(2499, (1, 1), (1,), 0)).candidates), 5000)
        self.assertEqual(len(Watcher(Hall(2500, (1, 1), (1,), 0)).candidates), 2502)
        self.assertRaises(TooMany, Watcher, Hall(2501, (1, 1), (1,), 0))
        # Two visitors are called in each period of one tick.
        self.assertEqual(len(Watcher(Hall(9998, (2,), (2,), 0)).candidates), 5000)
        self.assertRaises(TooMany, Watcher, Hall(10000, (2,), (2,), 0))

    def test_halls_whose_displays_repeat_late(self):
        source = random.Random(24)
        accepted = 0
        for _ in range(150):
            parts = (source.randint(2, 4000), simulation.pattern(source, 6, 9), simulation.pattern(source, 6, 9), 0)
            number = simulation.period_of(parts) + simulation.cycle_of(parts)
            with self.subTest(parts=parts):
                if number > 5000:
                    self.assertRaises(TooMany, Watcher, Hall(*parts))
                else:
                    self.assertEqual(len(Watcher(Hall(*parts)).candidates), number)
                    accepted += 1
        self.assertTrue(20 < accepted < 130)

    def test_calls_of_growing_halls_count(self):
        # Of nine visitors in each tick, four are called.
        self.assertEqual(len(Watcher(Hall(10000, (9,), (4,), 0)).candidates), 2501)

    def test_5000_candidates_in_long_queues(self):
        watcher = Watcher(Hall(4999, (9,), (1,), 0))
        # After tick t, 8 t + 8 visitors wait, and the first one has the number t + 1.
        self.assertEqual(watcher.see(17), 1)
        self.assertEqual(watcher.candidates, [17])
        self.assertEqual(watcher.waits(18), [0])
        self.assertEqual(watcher.waits(18 + 143), [143])
        self.assertEqual(watcher.waits(18 + 144), [])
        watcher = Watcher(Hall(4999, (9,), (1,), 0))
        # Before tick t, 8 t visitors wait, and the first one has the number t.
        expected = set()
        for first in range(5000):
            expected |= set(range((4998 - first) % 4999, 8 * first, 4999))
        self.assertEqual(watcher.waits(4998), sorted(expected))

    def test_the_first_tick_stays_the_same(self):
        watcher = Watcher(Hall(3, (2, 0), (1,), 2))
        for tick in range(20):
            self.assertEqual(watcher.see(tick % 3), 3)
            self.assertEqual(watcher.candidates, [0, 3, 6])
        self.assertEqual(watcher.history, [tick % 3 for tick in range(20)])


class TestNothingIsShown(unittest.TestCase):
    def test_nobody_takes(self):
        watcher = Watcher(Hall(5, (0,), (9,), 0))
        self.assertEqual(watcher.next_displays, [None])
        self.assertEqual(watcher.see(None), 2)
        self.assertEqual([watcher.history, watcher.candidates, watcher.next_displays], [[None], [0, 1], [None]])
        self.assertEqual([watcher.waits(digits) for digits in range(5)], [[]] * 5)
        self.assertRaises(Contradiction, watcher.see, 0)

    def test_nobody_is_called(self):
        watcher = Watcher(Hall(5, (3, 0), (0,), 0))
        self.assertEqual([watcher.candidates, watcher.next_displays], [[0, 1, 2, 3], [None]])
        # Before the ticks 0 to 3, nobody waits, or the tickets 0 to 2, or 0 to 5; before tick 5, 0 to 8.
        self.assertEqual([watcher.waits(digits) for digits in range(5)], [[0, 5], [1], [2], [3], [4]])
        self.assertEqual(watcher.see_all(None, None), 4)
        self.assertEqual([watcher.waits(digits) for digits in range(5)], [[0, 5], [1, 6], [2, 7], [3, 8], [4]])

    def test_none_comes_first(self):
        watcher = Watcher(Hall(5, (0, 1), (1,), 0))
        self.assertEqual(watcher.next_displays, [None, 0, 1, 2, 3, 4])
        self.assertEqual(watcher.see(None), 1)
        self.assertEqual([watcher.candidates, watcher.next_displays], [[0], [0]])

    def test_none_is_not_0(self):
        watcher = Watcher(Hall(5, (0, 1), (1,), 0))
        self.assertEqual([watcher.see(0), watcher.candidates], [3, [1, 2, 11]])


class TestWaits(unittest.TestCase):
    def test_before_the_first_tick(self):
        watcher = Watcher(Hall(2, (3, 0), (1, 2), 0))
        # Before tick 0 nobody waits; before tick 1, the tickets 1 and 2 do; before tick 3, 4 and 5; ..
        self.assertEqual([watcher.waits(0), watcher.waits(1)], [[0, 1], [0, 1]])

    def test_ascending_without_repeats(self):
        # Before the ticks 1 and 2 nine visitors wait, from the numbers 0 and 9 on; before tick 3 the same and nine more.
        watcher = Watcher(Hall(3, (9,), (0, 9), 0))
        self.assertEqual([watcher.waits(0), watcher.waits(2)], [[0, 3, 6, 9, 12, 15], [2, 5, 8, 11, 14, 17]])
        # The first tick was tick 0.
        self.assertEqual([watcher.see(None), watcher.waits(0), watcher.waits(2)], [1, [0, 3, 6], [2, 5, 8]])

    def test_waits_changes_nothing(self):
        watcher = Watcher(Hall(3, (2, 0), (1,), 2))
        watcher.see(0)
        before = state_of(watcher)
        self.assertEqual([watcher.waits(1), watcher.waits(1), watcher.waits(0), watcher.next_displays],
                         [[0], [0], [], [1]])
        self.assertEqual(state_of(watcher), before)


class TestErrors(unittest.TestCase):
    def setUp(self):
        self.watcher = Watcher(Hall(3, (2, 0), (1,), 2))
        self.watcher.see_all(0, 1)

    def assert_unchanged(self):
        self.assertEqual(state_of(self.watcher), ([0, 3, 6], [0, 1]))
        self.assertEqual(self.watcher.next_displays, [2])

    def test_invalid_digits(self):
        for digits in NO_DIGITS + (3, 4):
            with self.subTest(digits=digits):
                self.assertRaises(InvalidDigits, self.watcher.see, digits)
                self.assertRaises(InvalidDigits, self.watcher.see_all, digits)
                self.assertRaises(InvalidDigits, self.watcher.see_all, 2, 0, digits)
                self.assertRaises(InvalidDigits, self.watcher.see_all, 2, digits, 1)
                self.assertRaises(InvalidDigits, self.watcher.waits, digits)
                self.assert_unchanged()

    def test_nobody_waits_with_no_digits(self):
        self.assertRaises(InvalidDigits, self.watcher.waits, None)
        self.assert_unchanged()

    def test_largest_digits(self):
        self.assertEqual(self.watcher.see(2), 3)
        watcher = Watcher(Hall(4999, (1,), (1,), 0))
        self.assertEqual([watcher.see(4998), watcher.candidates, watcher.next_displays], [1, [4998], [0]])
        self.assertRaises(InvalidDigits, watcher.see, 4999)

    def test_contradictions(self):
        for displays in ((0,), (1,), (None,), (2, 2), (2, 0, 0), (2, 0, None), (2, 2, 0), (0, 1, 2), (2, 0, 1, 2, 1)):
            with self.subTest(displays=displays):
                self.assertRaises(Contradiction, self.watcher.see_all, *displays)
                self.assert_unchanged()
        for digits in (0, 1, None):
            self.assertRaises(Contradiction, self.watcher.see, digits)
            self.assert_unchanged()
        self.assertEqual(self.watcher.see_all(2, 0, 1, 2), 3)
        self.assertEqual(self.watcher.history, [0, 1, 2, 0, 1, 2])

    def test_the_first_error_is_raised(self):
        self.assertRaises(Contradiction, self.watcher.see_all, 0, True)
        self.assertRaises(Contradiction, self.watcher.see_all, 2, 1, "x")
        self.assertRaises(InvalidDigits, self.watcher.see_all, 3, 0)
        self.assertRaises(InvalidDigits, self.watcher.see_all, 2, -1, 2)
        self.assert_unchanged()

    def test_no_displays(self):
        self.assertEqual(self.watcher.see_all(), 3)
        self.assert_unchanged()
        self.assertEqual(Watcher(Hall(3, (2, 0), (1,), 2)).see_all(), 8)


class TestReturnedLists(unittest.TestCase):
    def test_they_are_new(self):
        watcher = Watcher(Hall(3, (2, 0), (1,), 2))
        watcher.see(0)
        for _ in range(2):
            lists = [watcher.candidates, watcher.history, watcher.next_displays, watcher.waits(1)]
            self.assertEqual(lists, [[0, 3, 6], [0], [1], [0]])
            for found in lists:
                found.append(7)
                found[0] = 5
        self.assertEqual(watcher.see(1), 3)
        self.assertEqual(watcher.history, [0, 1])

    def test_earlier_lists_stay_as_they_were(self):
        watcher = Watcher(Hall(3, (2, 0), (1,), 2))
        candidates, history = watcher.candidates, watcher.history
        watcher.see_all(0, 1)
        self.assertEqual([candidates, history], [[0, 1, 2, 3, 4, 5, 6, 7], []])

    def test_watchers_of_one_hall(self):
        hall = Hall(3, (2, 0), (1,), 2)
        one, other = Watcher(hall), Watcher(hall)
        one.see(0)
        self.assertEqual([other.history, len(other.candidates), other.see(1), one.history], [[], 8, 3, [0]])


if __name__ == "__main__":
    unittest.main()
