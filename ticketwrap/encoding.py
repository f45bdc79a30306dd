"""Halls as lists of bytes, and back."""

from ticketwrap.checks import is_integer_within
from ticketwrap.errors import InvalidCode
from ticketwrap.halls import GREATEST_ITEM, GREATEST_LATENESS, GREATEST_MODULUS, LEAST_MODULUS, MOST_ITEMS, Hall

FIRST_BYTE = 84
BYTES = 256


def checksum(code):
    """Return the byte that follows these bytes."""
    return sum(code) % BYTES


def encode(hall):
    """Return the list of the bytes of a hall."""
    modulus = [hall.modulus // BYTES, hall.modulus % BYTES]
    code = [FIRST_BYTE, *modulus, len(hall.takes), *hall.takes, len(hall.calls), *hall.calls, hall.lateness]
    return code + [checksum(code)]


def read_byte(code, place, least, greatest):
    """Return the byte at a place, which is to be from the least to the greatest one."""
    if place >= len(code) or not is_integer_within(code[place], least, greatest):
        raise InvalidCode(place)
    return code[place]


def read_modulus(code, place):
    """Return the modulus whose two bytes begin at a place."""
    above = read_byte(code, place, LEAST_MODULUS // BYTES, GREATEST_MODULUS // BYTES) * BYTES
    least = max(LEAST_MODULUS - above, 0)
    greatest = min(GREATEST_MODULUS - above, BYTES - 1)
    return above + read_byte(code, place + 1, least, greatest)


def read_pattern(code, place):
    """Return the pattern whose length stands at a place."""
    length = read_byte(code, place, 1, MOST_ITEMS)
    return tuple([read_byte(code, place + 1 + index, 0, GREATEST_ITEM) for index in range(length)])


def decode(code):
    """Return the hall of a list of bytes."""
    if not isinstance(code, list):
        raise InvalidCode(0)
    read_byte(code, 0, FIRST_BYTE, FIRST_BYTE)
    modulus = read_modulus(code, 1)
    takes = read_pattern(code, 3)
    calls_place = 4 + len(takes)
    calls = read_pattern(code, calls_place)
    lateness_place = calls_place + 1 + len(calls)
    lateness = read_byte(code, lateness_place, 0, GREATEST_LATENESS)
    # Bytes that are no integers cannot be summed up: the sum is taken when all of them have been read.
    last_place = lateness_place + 1
    last = checksum(code[:last_place])
    read_byte(code, last_place, last, last)
    if len(code) > last_place + 1:
        raise InvalidCode(last_place + 1)
    return Hall(modulus, takes, calls, lateness)
