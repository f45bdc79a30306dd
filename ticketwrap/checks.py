"""Checks of arguments that several files share."""

from ticketwrap.errors import InvalidDigits, InvalidTick

LAST_TICK = 10 ** 18


def is_integer_within(value, low, high):
    """Return whether a value is an integer from low to high."""
    # For Python, True and False are integers; in the package they are not.
    if isinstance(value, bool) or not isinstance(value, int):
        return False
    return low <= value <= high


def check_tick(tick):
    """Raise InvalidTick unless a value is a tick that may be passed."""
    if not is_integer_within(tick, 0, LAST_TICK):
        raise InvalidTick("a tick is an integer from 0 to 10 ** 18")


def check_digits(digits, modulus):
    """Raise InvalidDigits unless a value is what a ticket can show with a modulus."""
    if not is_integer_within(digits, 0, modulus - 1):
        raise InvalidDigits("digits are an integer from 0 to less than the modulus")
