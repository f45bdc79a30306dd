"""What keeps open tickets from having the same digits: another modulus, another lateness, more calls."""

from ticketwrap.checks import is_integer_within
from ticketwrap.clashes import most_open, most_open_with
from ticketwrap.errors import InvalidLimit
from ticketwrap.halls import GREATEST_ITEM, GREATEST_LATENESS, LEAST_MODULUS, Hall

MOST_PLACES = 4


def never_clashes(hall):
    """Return whether open tickets of a hall never have the same digits."""
    most = most_open(hall)
    return most is not None and most <= hall.modulus


def with_calls_at(hall, plan):
    """Return a hall like another one, with one more call at each place of a plan."""
    calls = [item + plan.count(place) for place, item in enumerate(hall.calls)]
    return Hall(hall.modulus, hall.takes, tuple(calls), hall.lateness)


def last_place(plan):
    """Return the last place of a plan, or the first one of all if the plan is empty."""
    if len(plan) == 0:
        return 0
    return plan[-1]


def longer_plans(calls, plans):
    """Return the list of all plans with one place more than these, in tuple order as these are."""
    return [plan + (place,) for plan in plans for place in range(last_place(plan), len(calls))
            if calls[place] + plan.count(place) < GREATEST_ITEM]


def plan_calls(hall, limit):
    """Return the shortest tuple of places at which one more call each prevents all clashes, or None."""
    if not is_integer_within(limit, 0, MOST_PLACES):
        raise InvalidLimit("a limit is an integer from 0 to 4")
    plans = [()]
    for _ in range(limit + 1):
        for plan in plans:
            if never_clashes(with_calls_at(hall, plan)):
                return plan
        plans = longer_plans(hall.calls, plans)
    return None


def least_modulus(hall):
    """Return the least modulus with which open tickets never have the same digits, or None if there is none."""
    most = most_open(hall)
    if most is None:
        return None
    return max(LEAST_MODULUS, most)


def greatest_lateness(hall):
    """Return the greatest lateness with which open tickets never have the same digits, or None if there is none."""
    if hall.growth > 0:
        return None
    for lateness in reversed(range(GREATEST_LATENESS + 1)):
        if most_open_with(hall, lateness) <= hall.modulus:
            return lateness
    return None
