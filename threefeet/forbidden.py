"""FORBIDDEN graphs: why a GRAPH cannot be drawn."""

from itertools import combinations, product

from threefeet.drawings import can_draw
from threefeet.errors import NoPaper
from threefeet.graphs import are_unlike, are_vertices, edges_of, graph_of, is_path, without_edges


def pairs_of(kind, corners):
    """The pairs of corners between which the PATHS of this kind lead, in their order."""
    if kind == "five":
        return list(combinations(list(corners), 2))
    return list(product(list(corners[:3]), list(corners[3:])))


def has_ends(path, pair):
    """Whether this PATH leads from the first to the second of pair."""
    return path[0] == pair[0] and path[-1] == pair[1]


def are_paths(graph, kind, corners, paths):
    """Whether corners are unlike and paths are the PATHS of a FORBIDDEN with these corners."""
    pairs = pairs_of(kind, corners)
    if not isinstance(paths, tuple) or len(paths) != len(pairs):
        return False
    inner = []
    for path, pair in zip(paths, pairs):
        if not is_path(graph, path) or not has_ends(path, pair):
            return False
        inner.extend(path[1:-1])
    return are_unlike(list(corners) + inner)


def is_forbidden(graph, thing):
    """Whether thing is a FORBIDDEN of graph."""
    if not isinstance(thing, tuple) or len(thing) != 3:
        return False
    kind, corners, paths = thing
    if kind not in ("five", "three"):
        return False
    if not are_vertices(corners, len(graph)) or len(corners) != (5 if kind == "five" else 6):
        return False
    return are_paths(graph, kind, corners, paths)


def path_along(graph, a, b):
    """The PATH from the corner a over b to the next corner, over vertices of two EDGES."""
    path = [a, b]
    while len(graph[path[-1]]) == 2:
        c, d = graph[path[-1]]
        path.append(d if c == path[-2] else c)
    return tuple(path)


def corners_of(graph, lines):
    """The kind and the corners of a bare GRAPH; lines holds its PATHS by their ends."""
    ends = [a for a, row in enumerate(graph) if len(row) > 2]
    if len(ends) == 5:
        return "five", tuple(ends)
    last = [a for a in ends if (ends[0], a) in lines]
    return "three", tuple([a for a in ends if a not in last] + last)


def forbidden(graph):
    """A FORBIDDEN of graph."""
    own = graph_of(len(graph), bared(graph))
    lines = {}
    for a, row in enumerate(own):
        if len(row) > 2:
            for b in row:
                path = path_along(own, a, b)
                lines[(a, path[-1])] = path
    kind, corners = corners_of(own, lines)
    return kind, corners, tuple([lines[pair] for pair in pairs_of(kind, corners)])


def edges_in(paper):
    """The set of the EDGES that the PATHS of paper use."""
    found = []
    for path in paper[2]:
        found.extend([(min(a, b), max(a, b)) for a, b in zip(path, path[1:])])
    return tuple(sorted(found))


def is_bare(graph):
    """Whether graph cannot be drawn, but can less any one of its EDGES."""
    if can_draw(graph):
        return False
    for edge in edges_of(graph):
        if not can_draw(without_edges(graph, (edge,))):
            return False
    return True


def bared(graph):
    """A set of EDGES of graph that make, with all its vertices, a bare GRAPH."""
    if can_draw(graph):
        raise NoPaper()
    size = len(graph)
    own = graph_of(size, edges_of(graph)[:3 * size - 5])
    for edge in edges_of(own):
        left = without_edges(own, (edge,))
        if not can_draw(left):
            own = left
    return edges_of(own)


def named(paper, names):
    """The FORBIDDEN of the same kind with names[k] in the place of each vertex k."""
    kind, corners, paths = paper
    lines = [tuple([names[a] for a in path]) for path in paths]
    return kind, tuple([names[a] for a in corners]), tuple(lines)
