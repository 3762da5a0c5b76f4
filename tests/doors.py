"""What the tests ask of calls: answers, errors and judges."""

from copy import deepcopy
from unittest import TestCase

from threefeet import errors

BASES = {"NoVertex": LookupError, "NoEdge": LookupError, "NoFace": LookupError, "NothingDone": LookupError,
         "Unfit": ValueError, "CanNot": ValueError, "NoPaper": ValueError, "TooMany": ValueError,
         "BadText": ValueError}


class DoorCase(TestCase):
    """A test that asks functions."""

    def raises(self, told, function, *args):
        """The call raises the error told as in the document, such as 'NoVertex(3)'."""
        name, _, rest = told.partition("(")
        kind = getattr(errors, name)
        with self.assertRaises(kind) as held:
            function(*args)
        self.assertIs(type(held.exception), kind)
        kept = {"NoVertex": "vertex", "NoEdge": "edge", "NoFace": "face", "BadText": "line"}
        if name in kept:
            value = eval(rest[:-1])
            got = getattr(held.exception, kept[name])
            self.assertEqual((type(got), got), (type(value), value))

    def same(self, got, due):
        """Equal, and of the same kinds throughout."""
        self.assertEqual(repr(got), repr(due))

    def judged(self, function, due, things):
        """function answers True or False for each thing, as due tells, and leaves the thing as it was."""
        seen = set()
        for thing in things:
            before = deepcopy(thing)
            got = function(thing)
            self.assertIs(got, bool(due(thing)), thing)
            self.assertEqual(repr(thing), repr(before))
            seen.add(got)
        return seen
