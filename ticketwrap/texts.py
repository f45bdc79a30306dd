"""The lines of texts: a word and its numbers, separated by one space."""

from ticketwrap.errors import TextFault

HALL_WORDS = ("modulus", "takes", "calls", "lateness")
ONE_NUMBER_WORDS = ("modulus", "lateness")
BARE_WORDS = ("undo", "redo")
MOST_DIGITS = 5


def write_line(word, numbers):
    """Return the line of a word and its numbers."""
    return " ".join([word] + [str(number) for number in numbers])


def is_number(word):
    """Return whether a word has one to five digits without leading zeros."""
    # There are digits outside of ASCII, which isdigit alone accepts.
    if not (word.isascii() and word.isdigit()):
        return False
    return len(word) <= MOST_DIGITS and (word == "0" or not word.startswith("0"))


def read_line(line):
    """Return the word of a line and the list of its numbers, or None instead of the list if the line is invalid."""
    word, *rest = line.split(" ")
    if not all([is_number(text) for text in rest]):
        return word, None
    if word in ONE_NUMBER_WORDS and len(rest) != 1:
        return word, None
    if word in BARE_WORDS and len(rest) > 0:
        return word, None
    return word, [int(text) for text in rest]


def read_hall_lines(lines):
    """Return the lists of numbers of the four lines of a hall, the first ones of these lines."""
    found = []
    for at, expected in enumerate(HALL_WORDS):
        if at == len(lines):
            raise TextFault(at)
        word, numbers = read_line(lines[at])
        if word != expected or numbers is None:
            raise TextFault(at)
        found.append(numbers)
    return found
