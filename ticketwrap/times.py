"""When tickets are taken and called, and what the display shows."""

from math import gcd

from ticketwrap.checks import check_tick, is_integer_within
from ticketwrap.errors import InvalidNumber

LAST_NUMBER = 10 ** 18


def tick_of(before, period, number):
    """Return the tick in which a count of tickets exceeds a number, or None if it never does.

    `before` returns the count before a tick; after the first period it grows alike in each one.
    """
    first = before(period)
    growth = before(2 * period) - first
    skipped = 0
    if number >= first:
        if growth == 0:
            return None
        skipped = (number - first) // growth
    tick = 0
    while before(tick + 1) + skipped * growth <= number:
        tick += 1
    return tick + skipped * period


def tick_of_take(hall, number):
    """Return the tick in which a ticket is taken, or None if it never is."""
    return tick_of(lambda tick: hall.taken(tick), hall.period, number)


def tick_of_call(hall, number):
    """Return the tick in which a ticket is called, or None if it never is."""
    return tick_of(lambda tick: hall.called(tick), hall.period, number)


def ticket_times(hall, number):
    """Return the ticks in which a ticket is taken and called, or None if it is never taken."""
    if not is_integer_within(number, 0, LAST_NUMBER):
        raise InvalidNumber("a ticket has a number from 0 to 10 ** 18")
    take = tick_of_take(hall, number)
    if take is None:
        return None
    return take, tick_of_call(hall, number)


def display(hall, tick):
    """Return the digits that the display shows after a tick, or None if nobody has been called."""
    check_tick(tick)
    called = hall.called(tick + 1)
    if called == 0:
        return None
    return (called - 1) % hall.modulus


def display_cycle(hall):
    """Return the smallest positive multiple of the period after which the display shows the same.

    After the first period, the number of called tickets grows by a multiple of the modulus in that time.
    """
    called = hall.called(2 * hall.period) - hall.called(hall.period)
    return hall.period * (hall.modulus // gcd(hall.modulus, called))


def longest_wait(hall):
    """Return the greatest number of ticks from a take to its call, or None if there is no greatest one."""
    if hall.growth > 0:
        return None
    # Nobody waits before the first period, so that no wait in it is longer than
    # the one a period later; and from the second period on, all waits repeat.
    longest = 0
    for tick in range(hall.period, 2 * hall.period):
        taken = hall.taken(tick + 1)
        # Of the tickets of one tick, the last one is called last.
        if taken > hall.taken(tick):
            longest = max(longest, tick_of_call(hall, taken - 1) - tick)
    return longest
