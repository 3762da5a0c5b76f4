"""The errors of the package, each with the values that it keeps."""


class NoVertex(LookupError):
    """A number was handed in for a vertex and is none."""

    def __init__(self, vertex):
        self.vertex = vertex


class NoEdge(LookupError):
    """A pair was handed in for an EDGE and is none."""

    def __init__(self, edge):
        self.edge = edge


class NoFace(LookupError):
    """A tuple was handed in for a FACE and is none."""

    def __init__(self, face):
        self.face = face


class NothingDone(LookupError):
    """There is nothing to take back, or to do again."""


class Unfit(ValueError):
    """The arguments are not of the kind that is asked for."""


class CanNot(ValueError):
    """What is asked cannot be done with these arguments."""


class NoPaper(ValueError):
    """There is no paper of the kind that is sought."""


class TooMany(ValueError):
    """There are more vertices than the function goes through."""


class BadText(ValueError):
    """A line of a text breaks a rule."""

    def __init__(self, line):
        self.line = line
