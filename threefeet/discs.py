"""DISCS: PLANE TURNS with one FACE as the outside."""

from itertools import combinations

from threefeet.cuts import is_firm, is_unbroken
from threefeet.errors import CanNot
from threefeet.graphs import are_numbers, check_vertex, pieces
from threefeet.sides import arc
from threefeet.turns import (
    begun, check_face, check_on, darts_of, face_table, graph_in, is_face, is_plane, least_begun, with_star, without_edge
)


def is_disc(thing):
    """Whether thing is a DISC."""
    if not isinstance(thing, tuple) or len(thing) != 2:
        return False
    turns, rim = thing
    # In an unbroken GRAPH each FACE is a CYCLE.
    return is_plane(turns) and is_unbroken(graph_in(turns)) and are_numbers(rim) and is_face(turns, rim)


def disc_of(turns, face):
    """The DISC with these turns and face as its rim."""
    check_face(turns, face)
    if not is_unbroken(graph_in(turns)):
        raise CanNot()
    return begun(turns), least_begun(face)


def rim_edges(disc):
    """The set of the RIM EDGES."""
    return tuple(sorted([(min(dart), max(dart)) for dart in darts_of(disc[1])]))


def next_on_rim(disc, vertex):
    """The vertex behind this one on the rim."""
    rim = disc[1]
    check_on(rim, (vertex,))
    return rim[(rim.index(vertex) + 1) % len(rim)]


def is_solid(disc):
    """Whether disc is SOLID."""
    return not soft_cuts(disc)


def meets(members, rim):
    """Whether one of members is on the rim."""
    for a in members:
        if a in rim:
            return True
    return False


def soft_cuts(disc):
    """The set of the pairs of two vertices and of a PIECE without them that is off the rim."""
    turns, rim = disc
    found = []
    for pair in combinations(range(len(turns)), 2):
        found.extend([(pair, members) for members in pieces(turns, pair) if not meets(members, rim)])
    return tuple(found)


def with_hub(disc):
    """The TURNS with a vertex more, outside and joined to each vertex of the rim."""
    turns, rim = disc
    return with_star(turns, rim, tuple(sorted(rim)))


def places_of(kept):
    """For each of these vertices its place among them."""
    return {a: k for k, a in enumerate(kept)}


def drawn_alone(turns, kept):
    """The TURNS that are left when all vertices but kept are taken out, numbered anew."""
    places = places_of(kept)
    return begun([tuple([places[b] for b in turns[a] if b in places]) for a in kept])


def gaps(row, places):
    """The pairs of kept vertices next to one another in this turn but for others that stand between them."""
    start = min([k for k, a in enumerate(row) if a in places])
    whole = row[start:] + row[:start + 1]
    at = [k for k, a in enumerate(whole) if a in places]
    return [(whole[j], whole[k]) for j, k in zip(at, at[1:]) if k > j + 1]


def block_disc(disc, gone, block):
    """The pair of block, a BLOCK less gone, and of its DISC drawn alone."""
    hub = with_hub(disc)
    places = places_of(block)
    alone = drawn_alone(disc[0], block)
    table = face_table(alone)
    found = {}
    for b in block:
        for a, _ in gaps(hub[b], places):
            found[table[(places[a], places[b])]] = True
    if len(found) != 1:
        raise CanNot()
    return block, (alone, list(found)[0])


def less_vertex(turns, vertex):
    """The pair of all other vertices and of the DISC of them whose rim is where vertex was."""
    check_vertex(turns, vertex)
    if not is_firm(graph_in(turns)):
        raise CanNot()
    kept = tuple([a for a in range(len(turns)) if a != vertex])
    places = places_of(kept)
    alone = drawn_alone(turns, kept)
    b = turns[vertex][0]
    a = turns[b][turns[b].index(vertex) - 1]
    return kept, (alone, face_table(alone)[(places[a], places[b])])


def less_edge(turns, edge):
    """The DISC less this EDGE whose rim is the FACE where it was."""
    left = without_edge(turns, edge)
    if not is_firm(graph_in(turns)):
        raise CanNot()
    a, b = edge
    before = turns[a][turns[a].index(b) - 1]
    return left, face_table(left)[(before, a)]


def outer_arcs(disc, vertices):
    """The PATHS along the rim from each of vertices to the next one."""
    rim = disc[1]
    check_on(rim, vertices)
    if not vertices:
        return ()
    start = rim.index(vertices[0])
    whole = rim[start:] + rim[:start]
    if len(vertices) == 1:
        return (whole,)
    ends = tuple([a for a in whole if a in vertices])
    return tuple([arc(rim, a, b) for a, b in darts_of(ends)])
