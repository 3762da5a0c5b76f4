"""What hangs at an arc of the rim of a DISC, and the STRETCHES of the arc that it spans."""

from threefeet.errors import CanNot
from threefeet.graphs import pieces
from threefeet.parts import chords, feet_of
from threefeet.turns import graph_in


def span(arc, vertices):
    """The least and the greatest place in arc of these vertices of it."""
    at = [arc.index(a) for a in vertices]
    return min(at), max(at)


def hangings(disc, arc, path):
    """The set of the HANGINGS."""
    graph = graph_in(disc[0])
    found = []
    for members in pieces(graph, tuple(sorted(arc + path))):
        ends = feet_of(graph, arc, members)
        if ends:
            found.append(span(arc, ends) + (members, feet_of(graph, path, members)))
    for edge in chords(graph, arc):
        found.append(span(arc, edge) + ((), ()))
    return tuple(sorted(found))


def is_within(pair, other):
    """Whether these two places lie from the first to the last of the other ones."""
    return other[0] <= pair[0] and pair[1] <= other[1]


def stretches_of(lot):
    """The set of the STRETCHES, lot being the HANGINGS."""
    pairs = sorted({own[:2] for own in lot})
    found = []
    for pair in pairs:
        around = [other for other in pairs if other != pair and is_within(pair, other)]
        if pair[0] < pair[1] and not around:
            found.append(pair)
    return tuple(found)


def stretches(disc, arc, path):
    """The set of the STRETCHES."""
    return stretches_of(hangings(disc, arc, path))


def hangings_in(disc, arc, path, stretch):
    """The HANGINGS that are in this STRETCH."""
    lot = hangings(disc, arc, path)
    if stretch not in stretches_of(lot):
        raise CanNot()
    # What hangs at one end alone of the STRETCH is not in it.
    return [own for own in lot if is_within(own[:2], stretch) and (own[0] < own[1] or own[0] not in stretch)]


def stretch_vertices(disc, arc, path, stretch):
    """The set of the vertices of arc along this STRETCH and of what hangs in it."""
    found = list(arc[stretch[0]:stretch[1] + 1])
    for own in hangings_in(disc, arc, path, stretch):
        found.extend(own[2])
    return tuple(sorted(found))


def standing(disc, arc, path, stretch):
    """The feet of the HANGING in this STRETCH that has feet; () if none has."""
    for own in hangings_in(disc, arc, path, stretch):
        if own[3]:
            return own[3]
    return ()


def shut_off(disc, arc, path, stretch):
    """The set of the HANGINGS in this STRETCH without feet."""
    return tuple([own for own in hangings_in(disc, arc, path, stretch) if not own[3]])


def arc_left(disc, arc, path):
    """The set of the places that are not strictly within a STRETCH."""
    held = {}
    for first, last in stretches(disc, arc, path):
        for k in range(first + 1, last):
            held[k] = True
    return tuple([k for k in range(len(arc)) if k not in held])


def led_anew(arc, stretch, line):
    """arc with line in the place of its vertices from the first to the last place of stretch."""
    first, last = stretch
    if line[0] != arc[first] or line[-1] != arc[last]:
        raise CanNot()
    return arc[:first] + line + arc[last + 1:]
