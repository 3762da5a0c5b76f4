"""A Yard: a drawing that is built deed by deed, with a HOME that is led on, and that can be taken back."""

from threefeet.edits import deed_done
from threefeet.errors import NothingDone, TooMany
from threefeet.homes import home
from threefeet.turns import begun

MOST = 20
FIRST = ((1, 2, 3), (0, 3, 2), (0, 1, 3), (0, 2, 1))


def check_few(turns):
    """Raise TooMany if turns have more vertices than a Yard holds."""
    if len(turns) > MOST:
        raise TooMany()


class Yard:
    """Holds PLANE TURNS of connectivity 3 or more, a HOME of them, and the deeds done since they were laid."""

    def __init__(self):
        # What is held is one triple: a step on, back or on again only takes another one.
        self._now = (FIRST, home(FIRST), ())
        self._behind = []
        self._ahead = []

    def _step_on(self, held):
        self._behind.append(self._now)
        self._ahead = []
        self._now = held

    def lay(self, turns):
        """Lay other TURNS, with any HOME."""
        check_few(turns)
        self._step_on((begun(turns), home(turns), ()))

    def do(self, deed):
        """Do a deed."""
        before, led, done = self._now
        turns, new = deed_done(before, led, deed)
        check_few(turns)
        self._step_on((turns, new, done + (deed,)))

    def undo(self):
        """Take back the last deed or laying that was not taken back."""
        if not self._behind:
            raise NothingDone()
        self._ahead.append(self._now)
        self._now = self._behind.pop()

    def redo(self):
        """Do again what was taken back last."""
        if not self._ahead:
            raise NothingDone()
        self._behind.append(self._now)
        self._now = self._ahead.pop()

    def turns(self):
        """The TURNS."""
        return self._now[0]

    def walk(self):
        """The WALK of the HOME."""
        return self._now[1][0]

    def triples(self):
        """The TRIPLES of the HOME."""
        return self._now[1][1]

    def deeds(self):
        """The deeds since the TURNS were laid."""
        return self._now[2]
