"""Whether the display of a hall shows what another one does, or what a log says."""

from math import lcm

from ticketwrap.checks import is_integer_within
from ticketwrap.errors import TooMany
from ticketwrap.times import display, display_cycle

MOST_TICKS = 20000


def first_difference(hall, other):
    """Return a tuple of the first tick after which the displays of two halls differ, and these, or None."""
    period = max(hall.period, other.period)
    cycle = lcm(display_cycle(hall), display_cycle(other))
    if period + cycle > MOST_TICKS:
        raise TooMany("too many ticks to compare")
    # The first ticket is called in the second period at the latest, if ever; from then on, both displays repeat.
    for tick in range(2 * period + cycle):
        digits, other_digits = display(hall, tick), display(other, tick)
        if digits != other_digits:
            return tick, digits, other_digits
    return None


def tells(item, digits):
    """Return whether an item of a log tells what a display shows: some digits, or None."""
    if digits is None:
        return item is None
    # The items can be of any kind, and for Python True equals 1.
    return is_integer_within(item, digits, digits)


def first_error(hall, log):
    """Return the index of the first item of a log that is not what the display shows after this tick, or None."""
    if not isinstance(log, list):
        return 0
    for tick, item in enumerate(log):
        if not tells(item, display(hall, tick)):
            return tick
    return None
