"""The errors that the package raises."""


class HallError(ValueError):
    """The base class of all errors of the package."""


class InvalidHall(HallError):
    """A part of a hall is invalid: `part` names it, `index` is the place of its first invalid item."""

    def __init__(self, part, index):
        super().__init__(f"invalid {part}, at item {index}")
        self.part = part
        self.index = index


class InvalidTick(HallError):
    """A tick is not an integer from 0 to 10 ** 18."""


class InvalidNumber(HallError):
    """The number of a ticket is not an integer from 0 to 10 ** 18."""


class InvalidDigits(HallError):
    """Digits are not what a ticket or a display can show."""


class TooMany(HallError):
    """There is more to look at than the function accepts."""


class InvalidLimit(HallError):
    """A limit of additional calls is not an integer from 0 to 4."""


class Contradiction(HallError):
    """No candidate explains what was seen."""


class TextFault(HallError):
    """A text is invalid: `line` is the number of its first invalid line."""

    def __init__(self, line):
        super().__init__(f"invalid line {line}")
        self.line = line


class InvalidCode(HallError):
    """A list of bytes is invalid: `place` is that of its first invalid byte."""

    def __init__(self, place):
        super().__init__(f"invalid byte at {place}")
        self.place = place


class InvalidName(HallError):
    """The name of a snapshot is not one to eight letters a to z."""


class UnknownName(HallError):
    """There is no snapshot of this name."""


class InvalidOperation(HallError):
    """A list of operations is invalid: `place` is that of its first invalid entry."""

    def __init__(self, place):
        super().__init__(f"invalid operation at {place}")
        self.place = place
