"""Which open tickets look the same, and who waits while another ticket with the same digits is called."""

from ticketwrap.checks import check_digits, check_tick
from ticketwrap.errors import TooMany

MOST_ROUNDS = 1000


def count_open(hall, tick, lateness):
    """Return how many tickets are open at a tick, with a lateness that need not be that of the hall."""
    return hall.taken(tick + 1) - hall.called(tick - lateness)


def most_open_with(hall, lateness):
    """Return the greatest number of open tickets with another lateness, or None if there is no greatest one."""
    if hall.growth > 0:
        return None
    # Nobody waits before the first tick, so that no tick has more open tickets than the one a period later;
    # and when the visitors of the first period no longer come late, each period is like the next one.
    start = hall.period + lateness
    return max([count_open(hall, tick, lateness) for tick in range(start, start + hall.period)])


def same_digits(number, start, end, modulus):
    """Return the list of the numbers from start on and before end that have the digits of a number."""
    return list(range(start + (number - start) % modulus, end, modulus))


def first_excess(hall, ticks, steady, excess):
    """Return the first tick with an excess above 0, or None if there is none.

    The ticks ascend. Those from the tick `steady` on are of one period and stand for the later ones, too:
    from one period to the next their excess grows as the number of waiting visitors does.
    """
    for tick in ticks:
        if excess(tick) > 0:
            return tick
    growth = hall.growth
    if growth == 0:
        return None
    later = [tick + hall.period * (-excess(tick) // growth + 1) for tick in ticks if tick >= steady]
    return min(later, default=None)


def open_tickets(hall, tick):
    """Return a tuple of the first open ticket and the number of open tickets at a tick."""
    check_tick(tick)
    return hall.called(tick - hall.lateness), count_open(hall, tick, hall.lateness)


def most_open(hall):
    """Return the greatest number of tickets that are open at the same tick, or None if there is no greatest one."""
    return most_open_with(hall, hall.lateness)


def first_clash(hall):
    """Return a tuple of the first tick with a clash and the first two tickets that clash, or None."""
    steady = hall.period + hall.lateness
    ticks = list(range(steady + hall.period))
    # Open tickets have consecutive numbers: they clash if they are more than the modulus.
    tick = first_excess(hall, ticks, steady, lambda at: count_open(hall, at, hall.lateness) - hall.modulus)
    if tick is None:
        return None
    older = hall.called(tick - hall.lateness)
    return tick, older, older + hall.modulus


def least_colors(hall):
    """Return the least number of colors with which open tickets never look the same, or None."""
    most = most_open(hall)
    if most is None:
        return None
    return max(1, (most + hall.modulus - 1) // hall.modulus)


def holders(hall, tick, digits):
    """Return the ascending list of the open tickets with some digits at a tick."""
    check_tick(tick)
    check_digits(digits, hall.modulus)
    first, count = open_tickets(hall, tick)
    if count // hall.modulus > MOST_ROUNDS:
        raise TooMany("too many open tickets")
    return same_digits(digits, first, first + count, hall.modulus)


def mistaken(hall, tick):
    """Return the ascending list of tuples of a called ticket and a waiting one with the same digits in a tick."""
    check_tick(tick)
    start, called, taken = hall.called(tick), hall.called(tick + 1), hall.taken(tick + 1)
    if (taken - called) // hall.modulus * (called - start) > MOST_ROUNDS:
        raise TooMany("too many mistaken visitors")
    return [(number, other) for number in range(start, called)
            for other in same_digits(number, called, taken, hall.modulus)]


def mistake_excess(hall, tick):
    """Return a number above 0 if a visitor is mistaken in a tick with calls, and otherwise how far off this is."""
    # The called and the waiting tickets have consecutive numbers: the farthest two
    # of them differ by one less than all these are, and the nearest two by one.
    waiting = hall.taken(tick + 1) - hall.called(tick + 1)
    present = hall.taken(tick + 1) - hall.called(tick)
    return min(waiting, present - hall.modulus)


def first_mistake(hall):
    """Return the first tick in which a visitor is mistaken, or None if there is none."""
    steady = hall.period
    ticks = [tick for tick in range(steady + hall.period) if hall.called(tick + 1) > hall.called(tick)]
    return first_excess(hall, ticks, steady, lambda at: mistake_excess(hall, at))
