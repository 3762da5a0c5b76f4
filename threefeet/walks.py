"""WALKS: closed walks, how often they come to vertices and EDGES, and the HOMES that they make."""

from itertools import combinations

from threefeet.cuts import falls_apart, is_separator
from threefeet.errors import CanNot, NoPaper
from threefeet.graphs import are_joined, are_vertices, is_set, is_tuple_of, mask_of, masks_of
from threefeet.turns import check_on, darts_of


def steps_round(walk):
    """The steps of a WALK from each place to the next one and from the last to the first; none of one vertex."""
    return darts_of(walk) if len(walk) > 1 else []


def edge_between(a, b):
    """These two neighbours as an EDGE."""
    return min(a, b), max(a, b)


def first_gap(graph, walk):
    """The first place whose vertex is no neighbour of the next one; None if there is none."""
    if len(walk) == len(graph) == 1:
        return None
    for k, (a, b) in enumerate(darts_of(walk)):
        if not are_joined(graph, a, b):
            return k
    return None


def is_walk(graph, thing):
    """Whether thing is a WALK of graph."""
    return are_vertices(thing, len(graph)) and thing != () and first_gap(graph, thing) is None


def is_triple(graph, vertex, thing):
    """Whether thing is a SEPARATOR of three vertices that holds vertex."""
    return is_set(thing, len(graph)) and len(thing) == 3 and vertex in thing and is_separator(graph, thing)


def are_triples(graph, walk, thing):
    """Whether thing is TRIPLES of walk."""
    doubled = twice(walk)
    if not is_tuple_of(thing, len(doubled)):
        return False
    for vertex, own in zip(doubled, thing):
        if not is_triple(graph, vertex, own):
            return False
    return True


def comes_over_all(graph, walk):
    """Whether each vertex of graph comes once or twice in this WALK of it."""
    told = visits(walk)
    return len(told) == len(graph) and max([times for _, times in told]) < 3


def is_home(graph, thing):
    """Whether thing is a HOME of graph."""
    if not is_tuple_of(thing, 2):
        return False
    walk, triples = thing
    return is_walk(graph, walk) and comes_over_all(graph, walk) and are_triples(graph, walk, triples)


def tallied(things):
    """The set of the pairs of one of these things and of how often it stands there."""
    times = {}
    for own in things:
        times[own] = times.get(own, 0) + 1
    return tuple(sorted([(own, many) for own, many in times.items()]))


def visits(walk):
    """The set of the pairs of a vertex of walk and of how often it comes."""
    return tallied(walk)


def twice(walk):
    """The set of the vertices that come just twice."""
    return tuple([vertex for vertex, times in visits(walk) if times == 2])


def edge_uses(walk):
    """The set of the pairs of an EDGE and of how often walk uses it."""
    return tallied([edge_between(a, b) for a, b in steps_round(walk)])


def first_triple(masks, vertex):
    """The least SEPARATOR of three vertices that holds vertex; None if there is none."""
    others = [a for a in range(len(masks)) if a != vertex]
    found = []
    for a, b in combinations(others, 2):
        if falls_apart(masks, mask_of((vertex, a, b))):
            found.append(tuple(sorted((vertex, a, b))))
    return min(found, default=None)


def first_lone(graph, walk):
    """The least vertex that comes just twice and is in no SEPARATOR of three vertices; None if there is none."""
    masks = masks_of(graph)
    for vertex in twice(walk):
        if first_triple(masks, vertex) is None:
            return vertex
    return None


def first_fault(graph, walk):
    """Why walk, a tuple of numbers, is not the WALK of a HOME; None if it is."""
    for k, a in enumerate(walk):
        if a >= len(graph):
            return "vertex", k
    gap = first_gap(graph, walk)
    if gap is not None:
        return "edge", gap
    for vertex in range(len(graph)):
        if vertex not in walk:
            return "missing", vertex
    for vertex, times in visits(walk):
        if times > 2:
            return "often", vertex
    lone = first_lone(graph, walk)
    return None if lone is None else ("triple", lone)


def triples_for(graph, walk):
    """TRIPLES of walk."""
    if first_lone(graph, walk) is not None:
        raise NoPaper()
    masks = masks_of(graph)
    return tuple([first_triple(masks, vertex) for vertex in twice(walk)])


def begun_at(walk, vertex):
    """The same WALK, begun at the first place of vertex."""
    check_on(walk, (vertex,))
    at = walk.index(vertex)
    return walk[at:] + walk[:at]


def merged(walk, other, vertex):
    """walk with other, begun at vertex, put in at its first place of vertex."""
    check_on(walk, (vertex,))
    put_in = begun_at(other, vertex)
    at = walk.index(vertex)
    return walk[:at] + put_in + walk[at:]


def unpaired(walk, edge):
    """A WALK without this EDGE, which walk uses twice the same way, that uses all others as often as walk does."""
    steps = steps_round(walk)
    at = [k for k, (a, b) in enumerate(steps) if edge_between(a, b) == edge]
    if len(at) != 2 or steps[at[0]] != steps[at[1]]:
        raise CanNot()
    s, t = steps[at[0]]
    row = walk[at[0]:] + walk[:at[0]]
    second = at[1] - at[0]
    return (t,) + row[2:second] + (s,) + row[second + 2:][::-1]


def first_comings(walk):
    """The set of the EDGES by which the vertices of walk come first."""
    found = []
    for k, (a, b) in enumerate(zip(walk, walk[1:])):
        if b not in walk[:k + 1]:
            found.append(edge_between(a, b))
    return tuple(sorted(found))
