"""Which vertices WAYS can spare, two of them at once, and the discs where they cannot."""

from itertools import combinations

from threefeet.chains import along, check_ask
from threefeet.discs import is_disc, is_solid, rim_edges
from threefeet.errors import CanNot, TooMany, Unfit
from threefeet.graphs import are_numbers, is_number, is_set, is_tuple_of
from threefeet.ownfeet import foot_paper, own_feet
from threefeet.parts import is_way
from threefeet.turns import graph_in
from threefeet.walks import edge_between
from threefeet.ways import way_along

STAR = (((1, 6, 5), (0, 2), (1, 3, 6), (2, 4), (3, 5, 6), (0, 4), (0, 2, 4)), (0, 1, 2, 3, 4, 5))
SPARED_BY_KIND = {"ends": (0, 4), "goal and edge": (2, 4), "start and edge": (0, 2)}
MOST = 9


def paths_between(graph, a, b):
    """All PATHS from a to b."""
    found = []
    fresh = [(a,)]
    while fresh:
        path = fresh.pop()
        if path[-1] == b:
            found.append(path)
        else:
            fresh.extend([path + (c,) for c in graph[path[-1]] if c not in path])
    return found


def check_small(disc, v, edge, u):
    """Raise what the functions that go through all WAYS raise."""
    check_ask(disc, v, edge, u)
    if len(disc[0]) > MOST:
        raise TooMany()


def all_ways(disc, v, edge, u):
    """The set of all WAYS."""
    check_small(disc, v, edge, u)
    lot = paths_between(graph_in(disc[0]), v, u)
    return tuple(sorted([path for path in lot if is_way(disc, v, edge, u, path)]))


def is_sparing(graph, lot, spared):
    """Whether one of these WAYS has OWN FEET that spare spared."""
    for path in lot:
        if foot_paper(graph, path, spared)[0] == "own":
            return True
    return False


def spares(disc, v, edge, u, spared):
    """Whether spared can be spared."""
    return is_sparing(graph_in(disc[0]), all_ways(disc, v, edge, u), spared)


def spare_papers(disc, v, edge, u, spared):
    """For each WAY OWN FEET that spare spared, or a CROWD that shows that it has none."""
    graph = graph_in(disc[0])
    return tuple([foot_paper(graph, path, spared) for path in all_ways(disc, v, edge, u)])


def is_part_of(own, lot):
    """Whether all of own is within one of these sets."""
    for other in lot:
        if len(set(own + other)) == len(other):
            return True
    return False


def most_spared(disc, v, edge, u):
    """The set of the greatest sets of some of u, v and the ends of edge that can be spared."""
    graph = graph_in(disc[0])
    lot = all_ways(disc, v, edge, u)
    corners = sorted(set((u, v) + edge))
    found = []
    for many in range(len(corners), -1, -1):
        for own in combinations(corners, many):
            if not is_part_of(own, found) and is_sparing(graph, lot, own):
                found.append(own)
    return tuple(sorted(found))


def counter_disc(kind):
    """A COUNTER of this kind."""
    if kind not in SPARED_BY_KIND:
        raise Unfit()
    return STAR, 0, (2, 3), 4, SPARED_BY_KIND[kind]


def is_ask(disc, v, edge, u):
    """Whether v is a vertex of the rim, edge a RIM EDGE and u another vertex than v."""
    if not is_number(v) or not are_numbers(edge) or not is_number(u):
        return False
    return v in disc[1] and edge in rim_edges(disc) and u < len(disc[0]) and u != v


def is_pair_to_spare(v, edge, u, spared):
    """Whether spared, a set of vertices, holds u and v, or one of these and an end of edge."""
    if len(spared) != 2:
        return False
    first, second = spared
    corners = (u, v) + edge
    return first in corners and second in corners and (first in (u, v) or second in (u, v))


def is_counter(thing):
    """Whether thing is a COUNTER."""
    if not is_tuple_of(thing, 5):
        return False
    disc, v, edge, u, spared = thing
    if not is_disc(disc) or len(disc[0]) > MOST or not is_solid(disc) or not is_ask(disc, v, edge, u):
        return False
    if not is_set(spared, len(disc[0])) or not is_pair_to_spare(v, edge, u, spared):
        return False
    return not spares(disc, v, edge, u, spared)


def next_way(disc, v, edge, u, spared):
    """An OWN WAY between neighbours on the rim that spares u and v, or u and the end of edge that comes first."""
    check_ask(disc, v, edge, u)
    rim = disc[1]
    between = edge_between(u, v)
    if between == edge or between not in rim_edges(disc):
        raise CanNot()
    at = rim.index(v)
    row = rim[at:] + rim[:at]
    own = along(row if row[-1] == u else row[:1] + row[:0:-1], edge)
    if spared not in (between, edge_between(u, own[1])):
        raise CanNot()
    path = way_along(disc, own, u, "u", "u" if spared == between else "x")
    return path, own_feet(graph_in(disc[0]), path, spared)
