"""What a watcher of the display, who does not know the tick, can conclude."""

from ticketwrap.checks import check_digits
from ticketwrap.errors import Contradiction, TooMany
from ticketwrap.times import display, display_cycle

MOST_CANDIDATES = 5000


class Watcher:
    """A watcher of the display of a hall in successive ticks, the first of which is not known."""

    def __init__(self, hall):
        ticks = hall.period + display_cycle(hall)
        if ticks > MOST_CANDIDATES:
            raise TooMany("too many candidates")
        self._hall = hall
        self._candidates = list(range(ticks))
        self._history = []

    def see(self, digits):
        """Observe the display after the next tick and return the number of candidates that remain."""
        return self.see_all(digits)

    def see_all(self, *displays):
        """Observe the displays after the next ticks, all or none, and return the number of candidates that remain."""
        candidates = self._candidates
        for later, digits in enumerate(displays, start=len(self._history)):
            if digits is not None:
                check_digits(digits, self._hall.modulus)
            candidates = [first for first in candidates if display(self._hall, first + later) == digits]
            if len(candidates) == 0:
                raise Contradiction("no candidate shows this")
        self._candidates = candidates
        self._history = self._history + list(displays)
        return len(candidates)

    @property
    def candidates(self):
        """The ticks that can have been the first one, in ascending order."""
        return list(self._candidates)

    @property
    def history(self):
        """All displays that were seen, in order."""
        return list(self._history)

    @property
    def next_displays(self):
        """All that the display can show after the next tick: None first, then digits in ascending order."""
        later = len(self._history)
        shown = [display(self._hall, first + later) for first in self._candidates]
        nothing = [None] if None in shown else []
        return nothing + sorted({digits for digits in shown if digits is not None})

    def waits(self, digits):
        """Return the ascending list of all possible numbers of visitors before one who waits with some digits."""
        modulus = self._hall.modulus
        check_digits(digits, modulus)
        # Of the places in the queue that have the digits, the first one tells all but how far they go:
        # candidates with the same first one differ in the length of the queue only.
        longest = {}
        for first in self._candidates:
            following = first + len(self._history)
            called = self._hall.called(following)
            waiting = self._hall.taken(following) - called
            place = (digits - called) % modulus
            longest[place] = max(waiting, longest.get(place, 0))
        return sorted([ahead for place in longest for ahead in range(place, longest[place], modulus)])
