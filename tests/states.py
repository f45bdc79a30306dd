"""A bench as a plain list of states, to compare the package with, and random operations."""

import simulation

WORDS = ("modulus", "takes", "calls", "lateness")
START = (3, (2, 0), (1,), 2)
# Values that no part of a hall has, with the index that InvalidHall tells.
NO_NUMBERS = (-1, 10001, 10 ** 30, True, False, None, "", "5", (), (5,), [], [5])
NO_PATTERNS = ((), None, True, False, 0, 1, "", "12", [], [1], [1, 1])
INVALID = (
    [("modulus", value, 0) for value in NO_NUMBERS + (0, 1)]
    + [("lateness", value, 0) for value in NO_NUMBERS + (100,)]
    + [(word, value, 0) for word in ("takes", "calls") for value in NO_PATTERNS]
    + [(word, value, index) for word in ("takes", "calls") for value, index in (
        ((10,), 0), ((-1, 1), 0), ((1, 10), 1), ((1, True), 1), ((False, 1), 0), ((1, 2, None), 2), ((1, "1"), 1),
        ((9, (1,)), 1), (((1, 1),), 0), ((1, [1]), 1), ((0,) * 13, 12), ((0,) * 14, 12), ((0,) * 11 + (10, 1), 11),
        ((0,) * 12 + (10,), 12))])
# Values that are no operations.
MALFORMED = (
    None, True, False, 0, 1, "", "undo", "modulus", "modulus 7", (), [], [()], ["undo"], ["modulus", 7],
    ("",), ("undo ",), ("Undo",), ("UNDO",), ("x",), ("modulus",), ("takes",), ("calls",), ("lateness",),
    ("modulus", 7, 7), ("takes", 1, 1), ("takes", (1,), (1,)), ("calls", 1, 2, 3), ("lateness", 1, None),
    ("undo", 1), ("undo", None), ("undo", ()), ("redo", 0), ("redo", "redo"), ("undo", "redo", "undo"),
    ("text",), ("save", "x"), ("restore", "x"), ("batch", []), ("part", 1), ("take", (1,)), ("period", 2),
    (None,), (True,), (False, 1), (0,), (1, 7), (7, "modulus"), ((), 1), (("undo",),), (["undo"],), ([], 7),
    (("modulus", 7),), (["modulus"], 7))
NO_LISTS = (None, True, False, 0, 1, "", "undo", (), ("undo",), (("undo",),), (("modulus", 7),))


def most_open(parts):
    """Return the greatest number of tickets that are open at the same tick, counted, or None if it grows."""
    if simulation.grows(parts):
        return None
    modulus, takes, calls, lateness = parts
    ticks = 3 * simulation.period_of(parts) + lateness
    taken, called = simulation.counts(takes, calls, ticks)
    return max(taken[tick + 1] - called[max(tick - lateness, 0)] for tick in range(ticks))


def text_of(parts):
    modulus, takes, calls, lateness = parts
    rows = (("modulus", modulus), ("takes", *takes), ("calls", *calls), ("lateness", lateness))
    return "\n".join(" ".join(map(str, row)) for row in rows)


class States:
    """All states from the first one on, each with the word that led to it, and which one is the present one."""

    def __init__(self, parts):
        self.states = [(None, parts)]
        self.at = 0

    def copy(self):
        other = States(None)
        other.states = list(self.states)
        other.at = self.at
        return other

    def parts(self):
        return self.states[self.at][1]

    def words(self):
        return [word for word, _ in self.states[1:self.at + 1]]

    def execute(self, operation):
        """Execute an operation that does not fail and return its result."""
        word = operation[0]
        if word == "undo":
            found = self.at > 0
            self.at -= found
            return found
        if word == "redo":
            found = self.at + 1 < len(self.states)
            self.at += found
            return found
        place = WORDS.index(word)
        parts = self.parts()
        self.states = self.states[:self.at + 1] + [(word, parts[:place] + (operation[1],) + parts[place + 1:])]
        self.at += 1
        return most_open(self.parts())

    def complete(self):
        """Return what complete_state returns for a bench in this state."""
        return [(text_of(parts), [word for word, _ in self.states[1:at + 1]])
                for at, (_, parts) in enumerate(self.states)], self.at


def complete_state(bench):
    """Return the texts and operations from the first state to the last undone one, and which is the present one."""
    at = 0
    while bench.undo():
        at += 1
    found = [(bench.text, bench.operations)]
    while bench.redo():
        found.append((bench.text, bench.operations))
    for _ in range(len(found) - 1 - at):
        bench.undo()
    return found, at


def random_operation(source):
    """Return an operation that does not fail."""
    kind = source.randrange(8)
    if kind < 4:
        return (("undo",), ("undo",), ("redo",), ("redo",))[kind]
    if kind == 4:
        return "modulus", source.choice((2, 3, 57, 9999, 10000))
    if kind == 5:
        return "lateness", source.choice((0, 1, 2, 10, 99))
    return WORDS[kind - 5], simulation.pattern(source, source.choice((2, 12)), 9)


def call(bench, operation):
    """Execute an operation by the method of its own, and return its result."""
    word, *arguments = operation
    if word in ("takes", "calls"):
        arguments = arguments[0]
    methods = {"modulus": bench.set_modulus, "takes": bench.set_takes, "calls": bench.set_calls,
               "lateness": bench.set_lateness, "undo": bench.undo, "redo": bench.redo}
    return methods[word](*arguments)
