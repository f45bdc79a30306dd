"""A bench on which a hall is changed step by step, and sessions: such changes as a text."""

from ticketwrap.clashes import most_open
from ticketwrap.errors import InvalidHall, InvalidName, InvalidOperation, TextFault, UnknownName
from ticketwrap.halls import Hall
from ticketwrap.texts import BARE_WORDS, HALL_WORDS, ONE_NUMBER_WORDS, read_line, write_line

LONGEST_NAME = 8


def with_part(hall, part, value):
    """Return a hall like another one but for one part."""
    parts = {"modulus": hall.modulus, "takes": hall.takes, "calls": hall.calls, "lateness": hall.lateness}
    parts[part] = value
    return Hall(parts["modulus"], parts["takes"], parts["calls"], parts["lateness"])


def is_name(name):
    """Return whether a value is the name of a snapshot: one to eight letters a to z."""
    if not isinstance(name, str):
        return False
    return len(name) <= LONGEST_NAME and name.isascii() and name.isalpha() and name.islower()


def is_operation(entry):
    """Return whether a value is a tuple of a word and the right number of arguments, whatever these are."""
    if not isinstance(entry, tuple) or len(entry) == 0:
        return False
    if entry[0] in HALL_WORDS:
        return len(entry) == 2
    return entry[0] in BARE_WORDS and len(entry) == 1


def check_list(operations):
    """Raise InvalidOperation unless a value is a list."""
    if not isinstance(operations, list):
        raise InvalidOperation(0)


def check_entry(entry, place):
    """Raise InvalidOperation unless the entry at a place is an operation, whatever its argument."""
    if not is_operation(entry):
        raise InvalidOperation(place)


class Bench:
    """A bench with a hall, on which operations change it that can be undone."""

    def __init__(self, hall):
        # The hall before all operations, and the one after each operation; the words of these operations;
        # and how many of them are in effect. Those that follow are the undone ones.
        self._halls = [hall]
        self._words = []
        self._done = 0
        self._snapshots = {}

    def set_modulus(self, modulus):
        """Replace the modulus and return the greatest number of open tickets, or None."""
        return self._replace("modulus", modulus)

    def set_takes(self, *takes):
        """Replace the pattern of takes and return the greatest number of open tickets, or None."""
        return self._replace("takes", takes)

    def set_calls(self, *calls):
        """Replace the pattern of calls and return the greatest number of open tickets, or None."""
        return self._replace("calls", calls)

    def set_lateness(self, lateness):
        """Replace the lateness and return the greatest number of open tickets, or None."""
        return self._replace("lateness", lateness)

    def undo(self):
        """Undo the last operation in effect and return whether there was one."""
        if self._done == 0:
            return False
        self._done -= 1
        return True

    def redo(self):
        """Repeat the operation that was undone last and return whether there was one."""
        if self._done == len(self._words):
            return False
        self._done += 1
        return True

    @property
    def text(self):
        """The text of the present hall."""
        return self._halls[self._done].text

    @property
    def operations(self):
        """The words of all operations in effect, in order."""
        return self._words[:self._done]

    def save(self, name):
        """Save the complete state under a name."""
        if not is_name(name):
            raise InvalidName("a name has one to eight letters a to z")
        self._snapshots[name] = self._state()

    def restore(self, name):
        """Restore the state that was saved under a name."""
        # What is no name may be a list, which is no key of a dict.
        if not is_name(name) or name not in self._snapshots:
            raise UnknownName("there is no snapshot of this name")
        self._set_state(self._snapshots[name])

    def batch(self, operations):
        """Execute a list of operations, all or none, and return the list of their results."""
        check_list(operations)
        for place, entry in enumerate(operations):
            check_entry(entry, place)
        before = self._state()
        try:
            return [self._execute(operation) for operation in operations]
        except InvalidHall:
            self._set_state(before)
            raise

    @classmethod
    def replay(cls, hall, operations):
        """Return a new bench with a hall after a list of operations."""
        check_list(operations)
        bench = cls(hall)
        for place, entry in enumerate(operations):
            check_entry(entry, place)
            try:
                bench._execute(entry)
            except InvalidHall:
                raise InvalidOperation(place) from None
        return bench

    def _replace(self, part, value):
        """Replace a part of the hall and return the greatest number of open tickets, or None."""
        hall = with_part(self._halls[self._done], part, value)
        self._halls = self._halls[:self._done + 1] + [hall]
        self._words = self._words[:self._done] + [part]
        self._done += 1
        return most_open(hall)

    def _execute(self, operation):
        """Execute an operation and return its result."""
        if operation[0] == "undo":
            return self.undo()
        if operation[0] == "redo":
            return self.redo()
        return self._replace(operation[0], operation[1])

    def _state(self):
        """Return the complete state. Its lists are never changed, but replaced."""
        return self._halls, self._words, self._done

    def _set_state(self, state):
        """Take over a complete state."""
        self._halls, self._words, self._done = state


def format_operation(operation):
    """Return the line of an operation."""
    word, *arguments = operation
    if word in BARE_WORDS or word in ONE_NUMBER_WORDS:
        return write_line(word, arguments)
    return write_line(word, arguments[0])


def read_operation(line):
    """Return the operation of a line, or None if the line is invalid."""
    word, numbers = read_line(line)
    if numbers is None:
        return None
    if word in BARE_WORDS:
        return (word,)
    if word in ONE_NUMBER_WORDS:
        return word, numbers[0]
    if word in HALL_WORDS:
        return word, tuple(numbers)
    return None


def format_session(hall, operations):
    """Return the session of a hall and a list of operations."""
    Bench.replay(hall, operations)
    return "\n".join([hall.text] + [format_operation(operation) for operation in operations])


def parse_session(text):
    """Return a tuple of the text of the hall of a session and the list of its operations."""
    if not isinstance(text, str):
        raise TextFault(0)
    lines = text.split("\n")
    many = len(HALL_WORDS)
    hall = Hall.parse("\n".join(lines[:many]))
    operations = []
    for at, line in enumerate(lines[many:], start=many):
        operation = read_operation(line)
        if operation is None:
            raise TextFault(at)
        operations.append(operation)
    Bench.replay(hall, operations)
    return hall.text, operations
