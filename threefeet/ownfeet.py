"""OWN FEET: a foot for each PART of a LINE that no other PART gets, and the CROWDS where there are none."""

from threefeet.chains import check_ask
from threefeet.errors import CanNot, NoPaper
from threefeet.graphs import are_numbers, are_unlike, are_vertices, is_tuple_of
from threefeet.parts import is_way, parts
from threefeet.turns import graph_in
from threefeet.ways import way_sparing


def hand_on(taken, holder, came, foot):
    """Give foot to the PART that came to it, the foot which this one had to the PART that came to that, and so on."""
    while foot is not None:
        k = came[foot]
        before = taken[k]
        taken[k] = foot
        holder[foot] = k
        foot = before


def crowd_from(lot, spared, taken, holder, start):
    """Get the PART in the place start a foot, others changing theirs; the places of a CROWD if there is no way to."""
    came = {}
    reached = [start]
    at = 0
    while at < len(reached):
        k = reached[at]
        for foot in lot[k][1]:
            if foot not in came and foot not in spared:
                came[foot] = k
                if foot not in holder:
                    hand_on(taken, holder, came, foot)
                    return []
                reached.append(holder[foot])
        at += 1
    return reached


def foot_paper(graph, line, spared):
    """The pair of "own" and OWN FEET that spare spared; if there are none that of "crowded" and a CROWD."""
    lot = parts(graph, line)
    taken = [None] * len(lot)
    holder = {}
    for k in range(len(lot)):
        crowd = crowd_from(lot, spared, taken, holder, k)
        if crowd:
            return "crowded", tuple([lot[j][0] for j in sorted(crowd)])
    return "own", tuple(taken)


def own_feet(graph, line, spared):
    """OWN FEET of line that spare spared."""
    word, paper = foot_paper(graph, line, spared)
    if word != "own":
        raise NoPaper()
    return paper


def is_own_feet(graph, line, spared, thing):
    """Whether thing is OWN FEET of line that spare spared."""
    lot = parts(graph, line)
    if not are_vertices(thing, len(graph)) or len(thing) != len(lot) or not are_unlike(thing):
        return False
    for foot, part in zip(thing, lot):
        if foot not in part[1] or foot in spared:
            return False
    return True


def crowded(graph, line, spared):
    """A CROWD."""
    word, paper = foot_paper(graph, line, spared)
    if word != "crowded":
        raise NoPaper()
    return paper


def is_lot(thing):
    """Whether thing is an ascending tuple of tuples of numbers, not ()."""
    if not isinstance(thing, tuple) or not thing:
        return False
    for own in thing:
        if not are_numbers(own):
            return False
    return tuple(sorted(set(thing))) == thing


def is_crowded(graph, line, spared, thing):
    """Whether thing is a CROWD."""
    if not is_lot(thing):
        return False
    feet_by = {members: feet for members, feet in parts(graph, line)}
    left = {}
    for members in thing:
        if members not in feet_by:
            return False
        for foot in feet_by[members]:
            if foot not in spared:
                left[foot] = True
    return len(left) < len(thing)


def own_way(disc, v, edge, u, spared):
    """An OWN WAY that spares the vertex spared, one of u, v and the ends of edge."""
    check_ask(disc, v, edge, u)
    if spared not in (u, v) + edge:
        raise CanNot()
    path = way_sparing(disc, v, edge, u, spared)
    return path, own_feet(graph_in(disc[0]), path, (spared,))


def is_own_way(disc, v, edge, u, spared, thing):
    """Whether thing is an OWN WAY that spares the set spared."""
    check_ask(disc, v, edge, u)
    if not is_tuple_of(thing, 2):
        return False
    path, own = thing
    return is_way(disc, v, edge, u, path) and is_own_feet(graph_in(disc[0]), path, spared, own)


def own_ways(disc, v, edge, u):
    """Four OWN WAYS, which spare u, v, and the one and the other end of edge."""
    return tuple([own_way(disc, v, edge, u, spared) for spared in (u, v) + edge])


def nobodys(line, own):
    """The set of the vertices of line that are not in own."""
    return tuple(sorted([a for a in line if a not in own]))
