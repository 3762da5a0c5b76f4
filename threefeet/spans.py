"""CYCLES and PATHS over all vertices of drawings of connectivity 4."""

from threefeet.cuts import connectivity
from threefeet.discs import less_vertex, next_on_rim, places_of, rim_edges
from threefeet.errors import CanNot, NoEdge
from threefeet.graphs import check_vertex, is_cycle, is_path
from threefeet.turns import check_face, darts_of, faces, graph_in, is_plane
from threefeet.walks import edge_between
from threefeet.ways import way, way_in_face


def is_thick(graph):
    """Whether the connectivity of graph is 4."""
    return connectivity(graph) == 4


def is_round_over(graph, gone, thing):
    """Whether thing is a CYCLE of all vertices but those of gone."""
    return is_cycle(graph, thing) and sorted(thing) == [a for a in range(len(graph)) if a not in gone]


def is_path_over(graph, a, b, thing):
    """Whether thing is a PATH from a to b that holds all vertices."""
    return is_path(graph, thing) and len(thing) == len(graph) and thing[0] == a and thing[-1] == b


def check_thick(turns):
    """Raise CanNot unless turns are PLANE and of connectivity 4."""
    if not is_plane(turns) or not is_thick(graph_in(turns)):
        raise CanNot()


def edge_apart(edges, vertices):
    """The first of these EDGES that has none of these vertices."""
    for edge in edges:
        if edge[0] not in vertices and edge[1] not in vertices:
            return edge
    return None


def edges_along(face):
    """The EDGES of each vertex of face and the next one."""
    return [edge_between(a, b) for a, b in darts_of(face)]


def line_over(turns, a, b):
    """A PATH from a to b of all vertices, turns being as they must be."""
    face = [own for own in faces(turns) if a in own and b not in own][0]
    return way_in_face(turns, face, a, edge_apart(edges_along(face), (a,)), b)


def round_over(turns):
    """A CYCLE of all vertices."""
    check_thick(turns)
    return line_over(turns, 0, turns[0][0])


def path_over(turns, a, b):
    """A PATH from a to b of all vertices."""
    check_vertex(turns, a)
    check_vertex(turns, b)
    check_thick(turns)
    return line_over(turns, a, b)


def line_past(disc, v, u):
    """A PATH of all vertices of this DISC, one vertex less than a drawing, between two neighbours on its rim."""
    return way(disc, v, edge_apart(rim_edges(disc), (v, u)), u)


def round_without(turns, vertex):
    """A CYCLE of all vertices but this one."""
    check_vertex(turns, vertex)
    check_thick(turns)
    names, disc = less_vertex(turns, vertex)
    v = disc[1][0]
    return tuple([names[a] for a in line_past(disc, v, next_on_rim(disc, v))])


def round_at(turns, a, b, c):
    """A CYCLE of all vertices in which b, a corner of the triangle of all three, stands between a and c."""
    names, disc = less_vertex(turns, b)
    places = places_of(names)
    return tuple([names[d] for d in line_past(disc, places[a], places[c])]) + (b,)


def round_over_by(turns, face, edge, other):
    """A CYCLE of all vertices that uses two EDGES of a FACE."""
    check_face(turns, face)
    lot = edges_along(face)
    if edge not in lot:
        raise NoEdge(edge)
    if other not in lot or other == edge:
        raise NoEdge(other)
    check_thick(turns)
    if len(face) > 3:
        # Closed by edge the PATH is the CYCLE.
        return way_in_face(turns, face, edge[0], other, edge[1])
    a, c = [d for d in face if (d in edge) != (d in other)]
    b = [d for d in face if d in edge and d in other][0]
    return round_at(turns, a, b, c)
