"""PARTS of a LINE, their feet, and WAYS."""

from threefeet.discs import meets
from threefeet.graphs import edges_of, is_path, pieces
from threefeet.turns import check_on, graph_in


def feet_of(graph, line, members):
    """The set of the vertices of line with a neighbour among members."""
    found = []
    for a in members:
        found.extend([b for b in graph[a] if b in line])
    return tuple(sorted(set(found)))


def parts(graph, line):
    """The set of the PARTS of line."""
    return tuple([(members, feet_of(graph, line, members)) for members in pieces(graph, tuple(sorted(line)))])


def parts_on(graph, line, vertex):
    """The set of the PARTS that have vertex as a foot."""
    check_on(line, (vertex,))
    return tuple([part for part in parts(graph, line) if vertex in part[1]])


def steps_of(path):
    """The set of the EDGES that this PATH uses."""
    return tuple(sorted([(min(a, b), max(a, b)) for a, b in zip(path, path[1:])]))


def chords(graph, path):
    """The set of the EDGES between the vertices of path that it does not use."""
    used = steps_of(path)
    return tuple([(a, b) for a, b in edges_of(graph) if a in path and b in path and (a, b) not in used])


def on_rim(disc, part):
    """Whether a member of this PART is on the rim."""
    return meets(part[0], disc[1])


def rim_parts(disc, line):
    """The set of the PARTS with a member on the rim."""
    return tuple([part for part in parts(graph_in(disc[0]), line) if on_rim(disc, part)])


def worst_part(disc, line):
    """The least PART with more feet than it may have; None if there is none."""
    for part in parts(graph_in(disc[0]), line):
        if len(part[1]) > (2 if on_rim(disc, part) else 3):
            return part
    return None


def is_three_footed(disc, line):
    """Whether line is THREE-FOOTED in disc."""
    return worst_part(disc, line) is None


def is_way(disc, v, edge, u, thing):
    """Whether thing is a WAY from v to u by edge."""
    return way_fault(disc, v, edge, u, thing) == ""


def way_fault(disc, v, edge, u, thing):
    """The first condition of a WAY from v to u by edge that thing lacks; "" if it is a WAY."""
    if not is_path(graph_in(disc[0]), thing):
        return "path"
    if thing[0] != v or thing[-1] != u:
        return "ends"
    if edge not in steps_of(thing):
        return "edge"
    return "" if is_three_footed(disc, thing) else "feet"
