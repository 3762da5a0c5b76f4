"""Deeds: drawings that grow by a vertex, an EDGE or a cut corner, and HOMES that are led on."""

from itertools import combinations, product

from threefeet.cuts import is_separator
from threefeet.errors import CanNot, NoEdge, NoFace, NoPaper, NoVertex
from threefeet.graphs import check_vertex
from threefeet.turns import (
    begun, begun_least, check_face, darts_of, graph_in, halved, told, with_chord, with_star
)
from threefeet.walks import begun_at, edge_between, steps_round, triples_for, twice, unpaired


def steps_over(walk, edge):
    """The steps of walk over edge."""
    return [(a, b) for a, b in steps_round(walk) if edge_between(a, b) == edge]


def place_over(walk, edges):
    """The first place of walk from which it steps over one of edges; None if it uses none."""
    for k, (a, b) in enumerate(steps_round(walk)):
        if edge_between(a, b) in edges:
            return k
    return None


def first_once(walk, corners):
    """The least of corners that comes once in walk; None if there is none."""
    doubled = twice(walk)
    return min([a for a in corners if a not in doubled], default=None)


def sides_of(face):
    """The three EDGES of a FACE of three vertices."""
    return list(combinations(sorted(face), 2))


def can_seat(home, face):
    """Whether home can be led through a vertex that is put in face, a FACE of three vertices."""
    walk = home[0]
    return place_over(walk, sides_of(face)) is not None or first_once(walk, face) is not None


def led_in(walk, n, edges, corners):
    """walk led through n in the place of its first step over one of edges.

    If it has none it goes from a corner that comes once to n and back."""
    k = place_over(walk, edges)
    if k is not None:
        return walk[:k + 1] + (n,) + walk[k + 1:]
    k = walk.index(first_once(walk, corners))
    return walk[:k + 1] + (n,) + walk[k:]


def home_with(walk, home, corners):
    """The HOME of walk, led on from home; a corner that comes twice only now has the corners as its triple."""
    kept = {a: own for a, own in zip(twice(home[0]), home[1])}
    return walk, tuple([kept.get(a, corners) for a in twice(walk)])


def seat(turns, home, face):
    """A vertex is put in face, which has three, and joined with all of them."""
    check_face(turns, face)
    if len(face) != 3 or not can_seat(home, face):
        raise CanNot()
    corners = tuple(sorted(face))
    walk = led_in(home[0], len(turns), sides_of(face), corners)
    return with_star(turns, face, corners), home_with(walk, home, corners)


def can_halve(home, face, edge):
    """Whether home can be led through a vertex on edge that is joined with the third vertex of face."""
    over = steps_over(home[0], edge)
    if not over:
        return can_seat(home, face)
    return len(over) == 1 or len(over) == 2 and over[0] == over[1]


def halved_in(turns, face, edge):
    """The TURNS with a vertex on edge that is joined, within face, with the third vertex of face."""
    third = [a for a in face if a not in edge][0]
    row = begun_at(face, third)
    n = len(turns)
    return with_chord(halved(turns, edge), row[:2] + (n,) + row[2:], third, n)


def halve(turns, home, face, edge):
    """A vertex is put on edge and joined, within face, with the third vertex of face."""
    check_face(turns, face)
    if edge not in [edge_between(a, b) for a, b in darts_of(face)]:
        raise NoEdge(edge)
    if len(face) != 3 or not can_halve(home, face, edge):
        raise CanNot()
    walk = home[0]
    corners = tuple(sorted(face))
    if len(steps_over(walk, edge)) == 2:
        # Both ends of edge come once then.
        walk = unpaired(walk, edge)
    edges = [edge] if steps_over(walk, edge) else sides_of(face)
    walk = led_in(walk, len(turns), edges, corners)
    return halved_in(turns, face, edge), home_with(walk, home, corners)


def cut_turns(turns, vertex):
    """The TURNS in which vertex is cut off by two more, one at its second and one at its third neighbour."""
    a, b, c = begun_least(turns[vertex])
    n = len(turns)
    rows = [list(row) for row in turns]
    rows[vertex] = [a, n, n + 1]
    rows[b][rows[b].index(vertex)] = n
    rows[c][rows[c].index(vertex)] = n + 1
    return told(rows + [[b, n + 1, vertex], [c, vertex, n]])


def passes(x, y, corner):
    """The two ways in which a walk may go from x over the new corners to y; corner tells that of each neighbour."""
    first, last = corner[x], corner[y]
    others = [a for a in corner.values() if a not in (first, last)]
    if x != y:
        return [(first, last), (first, others[0], last)]
    return [(first,), (first, others[0], others[1], first)]


def is_fit(line, corner):
    """Whether each of the new corners comes once or twice in line."""
    for a in corner.values():
        if line.count(a) not in (1, 2):
            return False
    return True


def cut_walk(walk, vertex, corner):
    """walk led over the new corners in the place of vertex: over each of them once or twice."""
    row = begun_at(walk, vertex)
    places = [k for k, a in enumerate(row) if a == vertex]
    lot = [passes(row[k - 1], row[(k + 1) % len(row)], corner) for k in places]
    if len(places) == 1:
        return [one for one in lot[0] if is_fit(one, corner)][0] + row[1:]
    at = places[1]
    fit = [(one, other) for one, other in product(lot[0], lot[1]) if is_fit(one + other, corner)]
    one, other = fit[0]
    return one + row[1:at] + other + row[at + 1:]


def cut_triple(graph, triple, vertex, corner):
    """This SEPARATOR of the GRAPH before vertex was cut, with one of its corners in the place of vertex."""
    if vertex not in triple:
        return triple
    for own in corner.values():
        new = tuple(sorted([own if a == vertex else a for a in triple]))
        if is_separator(graph, new):
            return new
    return None


def cut_triples(graph, walk, home, vertex, corner):
    """TRIPLES of walk, led on from home over the new corners of vertex."""
    kept = {a: cut_triple(graph, own, vertex, corner) for a, own in zip(twice(home[0]), home[1])}
    for x, own in corner.items():
        # With the neighbours of the two others it parts these off.
        kept[own] = tuple(sorted([own] + [y for y in corner if y != x]))
    return tuple([kept[a] for a in twice(walk)])


def cut_corner(turns, home, vertex):
    """vertex, which has three neighbours, becomes three vertices joined two by two, one at each of these."""
    check_vertex(turns, vertex)
    if len(turns[vertex]) != 3:
        raise CanNot()
    a, b, c = begun_least(turns[vertex])
    corner = {a: vertex, b: len(turns), c: len(turns) + 1}
    new = cut_turns(turns, vertex)
    walk = cut_walk(home[0], vertex, corner)
    return new, (walk, cut_triples(graph_in(new), walk, home, vertex, corner))


def chord(turns, home, face, a, b):
    """a and b are joined within face; the walk stays as it is."""
    new = with_chord(turns, face, a, b)
    try:
        return new, (home[0], triples_for(graph_in(new), home[0]))
    except NoPaper:
        raise CanNot() from None


def deed_done(turns, home, deed):
    """What the function tells that this deed names."""
    word = deed[0]
    if word == "seat":
        return seat(turns, home, deed[1])
    if word == "halve":
        return halve(turns, home, deed[1], deed[2])
    if word == "corner":
        return cut_corner(turns, home, deed[1])
    return chord(turns, home, deed[1], deed[2], deed[3])


def all_done(turns, home, deeds):
    """How many of deeds are done one behind the other, up to the first that raises, and what then is there."""
    many = 0
    turns = begun(turns)
    for deed in deeds:
        try:
            turns, home = deed_done(turns, home, deed)
        except (NoVertex, NoEdge, NoFace, CanNot):
            break
        many += 1
    return many, turns, home
