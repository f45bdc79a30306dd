"""Promises 1, 3 and 4: what happens in the ticks of a hall."""

import unittest
from itertools import islice

import simulation
from ticketwrap.errors import InvalidTick
from ticketwrap.halls import Hall

LAST = 10 ** 18
NO_TICKS = (-1, -LAST, LAST + 1, 10 ** 30, True, False, None, "", "0", (), (0,), [], [0])


class TestCounts(unittest.TestCase):
    def test_against_a_simulation(self):
        for parts in simulation.hall_parts():
            hall = Hall(*parts)
            ticks = min(4 * hall.period + 3, 200)
            events = simulation.play(parts[1], parts[2], ticks + 1)
            with self.subTest(parts=parts):
                for tick in range(0, ticks + 1):
                    taken = simulation.count(events, "take", tick)
                    called = simulation.count(events, "call", tick)
                    self.assertEqual((hall.taken(tick), hall.called(tick)), (taken, called))
                    if tick > 0:
                        self.assertEqual(hall.waiting(tick - 1), taken - called)

    def test_long_period_against_a_simulation(self):
        takes = (9, 0, 3, 1, 0, 0, 2, 8, 0, 1, 7, 5)
        for calls in ((1, 2, 3, 4, 5, 0, 0, 1, 9, 0, 8), (9, 9, 0, 0, 0, 0, 0, 0, 1, 0, 9),
                      (1, 0, 5, 1, 0, 3, 2, 1, 1, 1, 1)):
            hall = Hall(5, takes, calls, 0)
            events = simulation.play(takes, calls, 500)
            with self.subTest(calls=calls):
                for tick in (0, 1, 50, 131, 132, 133, 200, 263, 264, 265, 300, 395, 396, 397, 450, 500):
                    self.assertEqual(hall.taken(tick), simulation.count(events, "take", tick))
                    self.assertEqual(hall.called(tick), simulation.count(events, "call", tick))

    def test_late_ticks_continue_the_simulation(self):
        for parts in simulation.hall_parts():
            hall = Hall(*parts)
            period = hall.period
            events = simulation.play(parts[1], parts[2], 4 * period)
            taken = simulation.count(events, "take", period)
            called = min(taken, sum(parts[2]) * (period // len(parts[2])))
            for tick in (LAST, LAST + 1, 2 * LAST - 1, 2 * LAST, 999999999999999):
                early = 3 * period + tick % period
                rounds = (tick - early) // period
                with self.subTest(parts=parts, tick=tick):
                    self.assertEqual(hall.taken(tick), simulation.count(events, "take", early) + rounds * taken)
                    self.assertEqual(hall.called(tick), simulation.count(events, "call", early) + rounds * called)
                    if tick <= LAST:
                        self.assertEqual(hall.waiting(tick), hall.taken(tick + 1) - hall.called(tick + 1))

    def test_known_late_ticks(self):
        hall = Hall(3, (2, 0), (1,), 2)
        self.assertEqual([hall.taken(2 * LAST), hall.called(2 * LAST)], [2 * LAST, 2 * LAST])
        self.assertEqual([hall.taken(2 * LAST - 1), hall.called(2 * LAST - 1)], [2 * LAST, 2 * LAST - 1])
        self.assertEqual([hall.waiting(LAST), hall.waiting(LAST - 1)], [1, 0])
        hall = Hall(2, (1,), (0, 1), 0)
        self.assertEqual([hall.taken(2 * LAST), hall.called(2 * LAST)], [2 * LAST, LAST])
        self.assertEqual(hall.waiting(LAST), LAST // 2 + 1)
        hall = Hall(10000, (9,) * 12, (0,) * 11 + (1,), 0)
        self.assertEqual([hall.taken(2 * LAST), hall.called(2 * LAST)], [18 * LAST, 2 * LAST // 12])

    def test_before_tick_0(self):
        for takes, calls in (((2, 0), (1,)), ((9,), (9,)), ((9,) * 12, (9,) * 11), ((1,), (0,)), ((0,), (1,))):
            hall = Hall(3, takes, calls, 2)
            self.assertEqual([hall.taken(0), hall.called(0)], [0, 0])
            for tick in (-1, -2, -11, -12, -132, -133, -264, -1000, -99 - LAST, -2 * LAST):
                with self.subTest(takes=takes, calls=calls, tick=tick):
                    self.assertEqual([hall.taken(tick), hall.called(tick)], [0, 0])

    def test_takes_come_before_calls_in_a_tick(self):
        hall = Hall(3, (1,), (1,), 0)
        self.assertEqual([hall.called(1), hall.waiting(0), hall.waiting(LAST)], [1, 0, 0])

    def test_unused_calls_are_lost(self):
        hall = Hall(3, (0, 0, 4), (2,), 0)
        self.assertEqual([hall.called(tick) for tick in range(7)], [0, 0, 0, 2, 4, 4, 6])

    def test_nobody_takes(self):
        hall = Hall(3, (0, 0), (9,), 0)
        self.assertEqual([hall.taken(2 * LAST), hall.called(2 * LAST), hall.waiting(LAST)], [0, 0, 0])

    def test_nobody_is_called(self):
        hall = Hall(3, (0, 2), (0, 0, 0), 0)
        self.assertEqual([hall.taken(2 * LAST), hall.called(2 * LAST), hall.waiting(LAST)], [2 * LAST, 0, LAST])

    def test_waiting_needs_a_tick(self):
        for takes, calls in (((2, 0), (1,)), ((0,), (0,))):
            hall = Hall(3, takes, calls, 2)
            for tick in NO_TICKS:
                with self.subTest(tick=tick):
                    self.assertRaises(InvalidTick, hall.waiting, tick)

    def test_the_same_call_gives_the_same(self):
        hall = Hall(3, (2, 0), (1,), 2)
        for _ in range(3):
            self.assertRaises(InvalidTick, hall.waiting, -1)
            self.assertEqual([hall.taken(3), hall.called(3), hall.waiting(2), hall.growth], [4, 3, 1, 0])


class TestGrowth(unittest.TestCase):
    def test_against_a_simulation(self):
        for parts in simulation.hall_parts():
            hall = Hall(*parts)
            events = simulation.play(parts[1], parts[2], 4 * hall.period)
            waiting = [simulation.count(events, "take", tick) - simulation.count(events, "call", tick)
                       for tick in (2 * hall.period, 3 * hall.period, 4 * hall.period)]
            with self.subTest(parts=parts):
                self.assertEqual(hall.growth, waiting[1] - waiting[0])
                self.assertEqual(hall.growth, waiting[2] - waiting[1])

    def test_known(self):
        for takes, calls, growth in (((2, 0), (1,), 0), ((1,), (0, 1), 1), ((0,), (0,), 0), ((1,), (0,), 1),
                                     ((0,), (9,), 0), ((9, 0), (9, 9, 9), 0), ((9,) * 12, (0,) * 11, 1188),
                                     ((9,) * 12, (9,) * 11, 0), ((3, 0), (1, 1, 2), 1)):
            with self.subTest(takes=takes, calls=calls):
                self.assertEqual(Hall(3, takes, calls, 0).growth, growth)

    def test_visitors_of_the_first_period_alone_are_no_growth(self):
        hall = Hall(3, (0, 3), (2,), 0)
        self.assertEqual([hall.waiting(0), hall.waiting(1), hall.waiting(2), hall.waiting(3), hall.growth],
                         [0, 1, 0, 1, 0])


class TestEvents(unittest.TestCase):
    def test_against_a_simulation(self):
        for parts in simulation.hall_parts():
            hall = Hall(*parts)
            ticks = min(3 * hall.period, 60)
            events = simulation.play(parts[1], parts[2], ticks)
            with self.subTest(parts=parts):
                self.assertEqual(list(hall.events(0, ticks)), events)
                for start, end in ((0, 1), (1, ticks), (ticks // 2, ticks - 1), (ticks - 1, ticks)):
                    self.assertEqual(list(hall.events(start, end)),
                                     [event for event in events if start <= event[1] < end])

    def test_no_ticks(self):
        hall = Hall(3, (2, 0), (1,), 2)
        for start, end in ((0, 0), (5, 5), (5, 4), (LAST, 0), (LAST, LAST)):
            self.assertEqual(list(hall.events(start, end)), [])

    def test_last_ticks(self):
        hall = Hall(3, (2, 0), (1,), 2)
        self.assertEqual(list(hall.events(LAST - 2, LAST)), [
            ("take", LAST - 2, LAST - 2), ("take", LAST - 2, LAST - 1),
            ("call", LAST - 2, LAST - 2), ("call", LAST - 1, LAST - 1)])

    def test_all_ticks_one_after_another(self):
        hall = Hall(3, (0, 0, 1), (1,), 2)
        self.assertEqual(list(islice(hall.events(0, LAST), 3)), [("take", 2, 0), ("call", 2, 0), ("take", 5, 1)])

    def test_invalid_ticks_are_told_with_the_first_event(self):
        hall = Hall(3, (2, 0), (1,), 2)
        for tick in NO_TICKS:
            for start, end in ((tick, 3), (0, tick), (LAST, tick), (tick, tick)):
                with self.subTest(start=start, end=end):
                    events = hall.events(start, end)
                    self.assertRaises(InvalidTick, next, events)

    def test_it_is_a_generator(self):
        events = Hall(3, (2, 0), (1,), 2).events(0, 1)
        self.assertEqual(next(events), ("take", 0, 0))
        self.assertEqual(list(events), [("take", 0, 1), ("call", 0, 0)])
        self.assertRaises(StopIteration, next, events)


if __name__ == "__main__":
    unittest.main()
