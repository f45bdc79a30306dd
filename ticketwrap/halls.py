"""Halls: who takes a ticket and who is called, tick by tick."""

from math import lcm

from ticketwrap.checks import check_tick, is_integer_within
from ticketwrap.errors import InvalidHall, TextFault
from ticketwrap.texts import HALL_WORDS, read_hall_lines, write_line

LEAST_MODULUS = 2
GREATEST_MODULUS = 10000
MOST_ITEMS = 12
GREATEST_ITEM = 9
GREATEST_LATENESS = 99


def first_invalid_item(pattern):
    """Return the index that InvalidHall tells for a pattern, or None if the pattern is valid."""
    if not isinstance(pattern, tuple) or len(pattern) == 0:
        return 0
    for index, item in enumerate(pattern):
        if index == MOST_ITEMS or not is_integer_within(item, 0, GREATEST_ITEM):
            return index
    return None


def check_pattern(part, pattern):
    """Raise InvalidHall unless a part of a hall is a pattern."""
    index = first_invalid_item(pattern)
    if index is not None:
        raise InvalidHall(part, index)


def check_hall(modulus, takes, calls, lateness):
    """Raise InvalidHall for the first part that no hall has."""
    if not is_integer_within(modulus, LEAST_MODULUS, GREATEST_MODULUS):
        raise InvalidHall("modulus", 0)
    check_pattern("takes", takes)
    check_pattern("calls", calls)
    if not is_integer_within(lateness, 0, GREATEST_LATENESS):
        raise InvalidHall("lateness", 0)


def count_calls(takes, calls, ticks):
    """Return the list of how many tickets are called before each tick, from tick 0 to the given one."""
    called = [0]
    waiting = 0
    for tick in range(ticks):
        waiting += takes[tick % len(takes)]
        now = min(waiting, calls[tick % len(calls)])
        waiting -= now
        called.append(called[tick] + now)
    return called


class Hall:
    """A waiting hall: a modulus, a pattern of takes, a pattern of calls and a lateness."""

    def __init__(self, modulus, takes, calls, lateness):
        check_hall(modulus, takes, calls, lateness)
        self.modulus = modulus
        self.takes = takes
        self.calls = calls
        self.lateness = lateness
        # Two periods tell all: nobody waits before the first one, and from the second one on
        # each period calls the same numbers of tickets, whether the number of visitors who wait grows or not.
        self._called = count_calls(takes, calls, 2 * self.period)

    @property
    def period(self):
        """The number of ticks after which both patterns repeat."""
        return lcm(len(self.takes), len(self.calls))

    @property
    def growth(self):
        """By how many the waiting visitors grow in a period, after the first one."""
        return self.waiting(2 * self.period) - self.waiting(self.period)

    def taken(self, tick):
        """Return how many tickets are taken before a tick."""
        rounds, rest = divmod(max(tick, 0), len(self.takes))
        return rounds * sum(self.takes) + sum(self.takes[:rest])

    def called(self, tick):
        """Return how many tickets are called before a tick."""
        period = self.period
        skipped = max(tick // period - 1, 0)
        in_period = self._called[2 * period] - self._called[period]
        return skipped * in_period + self._called[max(tick, 0) - skipped * period]

    def waiting(self, tick):
        """Return how many visitors wait after a tick."""
        check_tick(tick)
        return self.taken(tick + 1) - self.called(tick + 1)

    def events(self, start, end):
        """Yield the takes and calls of the ticks from start on and before end."""
        check_tick(start)
        check_tick(end)
        for tick in range(start, end):
            for number in range(self.taken(tick), self.taken(tick + 1)):
                yield ("take", tick, number)
            for number in range(self.called(tick), self.called(tick + 1)):
                yield ("call", tick, number)

    @property
    def text(self):
        """The text of the hall, which `parse` reads."""
        parts = ((self.modulus,), self.takes, self.calls, (self.lateness,))
        return "\n".join([write_line(word, numbers) for word, numbers in zip(HALL_WORDS, parts)])

    @classmethod
    def parse(cls, text):
        """Return the hall of a text."""
        if not isinstance(text, str):
            raise TextFault(0)
        lines = text.split("\n")
        modulus, takes, calls, lateness = read_hall_lines(lines)
        if len(lines) > len(HALL_WORDS):
            raise TextFault(len(HALL_WORDS))
        return cls(modulus[0], tuple(takes), tuple(calls), lateness[0])
