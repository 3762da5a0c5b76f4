"""SIDES of a DISC: an arc along the rim to an EDGE, and the chain of BLOCKS that leads on from there."""

from threefeet.cuts import block_chain
from threefeet.discs import rim_edges
from threefeet.errors import CanNot, NoEdge, NoVertex
from threefeet.graphs import are_numbers, gather, is_number, is_tuple_of
from threefeet.parts import feet_of
from threefeet.turns import check_on, graph_in


def check_start(disc, v, edge):
    """Raise NoVertex unless v is on the rim, then NoEdge unless edge is a RIM EDGE."""
    check_on(disc[1], (v,))
    if edge not in rim_edges(disc):
        raise NoEdge(edge)


def check_goal(disc, v, u):
    """Raise NoVertex unless u is a vertex other than v."""
    if u == v or not 0 <= u < len(disc[0]):
        raise NoVertex(u)


def check_ask(disc, v, edge, u):
    """Raise what the functions with v, edge and u raise."""
    check_start(disc, v, edge)
    check_goal(disc, v, u)


def along(row, edge):
    """The arc, x, y and back of a SIDE along row, the rim begun with v; None if edge comes last."""
    x, y = edge if row.index(edge[0]) < row.index(edge[1]) else edge[::-1]
    at = row.index(x)
    if row[at + 1] != y:
        return None
    return row[:at + 1], x, y, row[at + 1:]


def all_sides(disc, v, edge, u):
    """The SIDES, each in its direction."""
    rim = disc[1]
    at = rim.index(v)
    found = []
    for row in (rim[at:] + rim[:at], rim[at::-1] + rim[:at:-1]):
        own = along(row, edge)
        if own is not None and u not in own[0] and u in kept(disc, own[0], own[2]):
            found.append(own)
    return found


def side(disc, v, edge, u):
    """A SIDE."""
    check_ask(disc, v, edge, u)
    return all_sides(disc, v, edge, u)[0]


def is_side(disc, v, edge, u, thing):
    """Whether thing is a SIDE."""
    check_ask(disc, v, edge, u)
    if not is_tuple_of(thing, 4):
        return False
    arc, x, y, back = thing
    return are_numbers(arc) and is_number(x) and is_number(y) and are_numbers(back) and (
        thing in all_sides(disc, v, edge, u))


def kept(disc, arc, y):
    """The PIECE of the GRAPH less arc that holds y."""
    return gather(disc[0], y, {a: True for a in arc})


def chain(disc, arc, y, u):
    """The BLOCKS of the GRAPH less arc from y to u, each with its first and its last vertex."""
    return block_chain(graph_in(disc[0]), tuple(sorted(arc)), y, u)


def vertices_of(links):
    """The set of the vertices of the BLOCKS of these triples."""
    found = []
    for link in links:
        found.extend(link[0])
    return tuple(sorted(set(found)))


def hook(graph, members, held, vertex):
    """The one vertex of held that has a neighbour in the PIECE of vertex, of members less held."""
    seen = {a: True for a in range(len(graph)) if a not in members or a in held}
    found = feet_of(graph, held, gather(graph, vertex, seen))
    if len(found) != 1:
        raise CanNot()
    return found[0]


def hung_at(graph, members, links, vertex):
    """vertex if it is in a BLOCK of links, else the one vertex of these BLOCKS at which it hangs within members."""
    held = vertices_of(links)
    return vertex if vertex in held else hook(graph, members, held, vertex)


def chain_exit(disc, arc, back, links):
    """The vertex where back leaves the chain for good."""
    y, last = back[0], back[-1]
    held = tuple(sorted(set((y,) + vertices_of(links))))
    return last if last in held else hook(graph_in(disc[0]), kept(disc, arc, y), held, last)
