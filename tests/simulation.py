"""A hall played tick by tick, straight from the words of the document, to compare the package with."""

import random
from math import lcm


def play(takes, calls, ticks):
    """Return the events of the ticks from 0 on, as Hall.events tells them."""
    events = []
    waiting = []
    next_number = 0
    for tick in range(ticks):
        for _ in range(takes[tick % len(takes)]):
            events.append(("take", tick, next_number))
            waiting.append(next_number)
            next_number += 1
        for _ in range(calls[tick % len(calls)]):
            if waiting:
                events.append(("call", tick, waiting.pop(0)))
    return events


def times(events):
    """Return a dict from each ticket number to the list of its tick of take and, if any, its tick of call."""
    found = {}
    for _, tick, number in events:
        found.setdefault(number, []).append(tick)
    return found


def count(events, word, tick):
    """Return how many events of a kind there are before a tick."""
    return len([event for event in events if event[0] == word and event[1] < tick])


def pattern(source, most_items, greatest):
    return tuple(source.randint(0, greatest) for _ in range(source.randint(1, most_items)))


def hall_parts():
    """Return the parts of many different halls, the same ones in each run."""
    source = random.Random(20)
    parts = [
        (2, (0,), (0,), 0),
        (3, (2, 0), (1,), 2),
        (2, (1,), (0, 1), 0),
        (7, (0, 0, 5), (2, 2), 0),
        (7, (0,), (1,), 3),
        (7, (1,), (0,), 3),
        (10000, (9,) * 12, (9,) * 12, 99),
        (10000, (9,) * 12, (9,) * 11 + (8,), 99),
        (5, (9, 9, 9, 9, 9, 9) + (0,) * 6, (4,) * 11 + (9,), 1),
    ]
    for _ in range(60):
        parts.append((source.randint(2, 12), pattern(source, 5, 3), pattern(source, 5, 3), source.randint(0, 5)))
    for _ in range(12):
        parts.append((source.randint(2, 40), pattern(source, 12, 9), pattern(source, 12, 9), source.randint(0, 9)))
    return parts


def period_of(parts):
    return lcm(len(parts[1]), len(parts[2]))


def grows(parts):
    return sum(parts[1]) * len(parts[2]) > sum(parts[2]) * len(parts[1])


def ticks_of(takes, calls, lateness, ticks):
    """Return a tuple of three lists for each tick: the tickets called in it, those that wait after it, the open ones."""
    found = []
    waiting = []
    may_come = []
    taken = 0
    for tick in range(ticks):
        new = list(range(taken, taken + takes[tick % len(takes)]))
        taken += len(new)
        called = (waiting + new)[:calls[tick % len(calls)]]
        waiting = (waiting + new)[len(called):]
        may_come = [(number, at) for number, at in may_come if tick <= at + lateness]
        may_come += [(number, tick) for number in called]
        found.append((called, list(waiting), [number for number, _ in may_come] + waiting))
    return found


def counts(takes, calls, ticks):
    """Return two lists: how many tickets are taken and how many are called before each tick."""
    taken, called = [0], [0]
    for tick in range(ticks):
        taken.append(taken[tick] + takes[tick % len(takes)])
        called.append(min(taken[tick + 1], called[tick] + calls[tick % len(calls)]))
    return taken, called


def small_hall_parts():
    """Return the parts of many halls with small moduli, short patterns and a small lateness, the same in each run."""
    source = random.Random(21)
    parts = [
        (2, (0,), (0,), 0), (2, (0,), (3,), 4), (2, (1,), (0,), 3), (5, (2, 0), (0, 0), 0), (2, (1,), (1,), 0),
        (2, (1,), (1,), 1), (2, (1,), (1,), 2), (3, (2, 0), (1,), 2), (2, (1,), (0, 1), 0), (4, (0, 0, 3), (2, 1), 1),
        (2, (2, 2, 0, 0), (1,), 0), (3, (0, 0, 1), (0, 1, 0), 0), (2, (0, 0, 1), (0, 1, 0), 0), (6, (9,), (9,), 0),
    ]
    for _ in range(400):
        parts.append((source.randint(2, 9), pattern(source, 4, 3), pattern(source, 4, 3), source.randint(0, 6)))
    for _ in range(60):
        parts.append((source.randint(2, 40), pattern(source, 6, 9), pattern(source, 6, 9), source.randint(0, 12)))
    return parts


def cycle_of(parts):
    """Return after how many ticks the display repeats, counted period by period."""
    modulus, takes, calls, _ = parts
    period = period_of(parts)
    # With this many periods, the number of called tickets surely grows by a multiple of the modulus.
    _, called = counts(takes, calls, (modulus + 1) * period)
    cycle = period
    while (called[period + cycle] - called[period]) % modulus:
        cycle += period
    return cycle


def displays(parts, ticks):
    """Return the list of what the display shows after each tick."""
    _, called = counts(parts[1], parts[2], ticks)
    return [None if many == 0 else (many - 1) % parts[0] for many in called[1:]]
