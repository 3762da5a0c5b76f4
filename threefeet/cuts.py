"""SEPARATORS, the connectivity and the BLOCKS of GRAPHS."""

from itertools import combinations

from threefeet.errors import CanNot, NoVertex
from threefeet.graphs import check_vertex, check_vertices, flooded, mask_of, masks_of, pieces, shortest_path


def is_separator(graph, vertices):
    """Whether vertices is a SEPARATOR."""
    return len(pieces(graph, vertices)) > 1


def falls_apart(masks, gone):
    """Whether the GRAPH of masks falls apart less the vertices of the integer gone."""
    room = ((1 << len(masks)) - 1) & ~gone
    if not room:
        return False
    return flooded(masks, room.bit_length() - 1, room) != room


def separators(graph, many):
    """The set of the SEPARATORS of just many vertices."""
    masks = masks_of(graph)
    return tuple([own for own in combinations(range(len(graph)), many) if falls_apart(masks, mask_of(own))])


def least_separator(graph, most):
    """Of the SEPARATORS with the fewest vertices the least; None if all have more than most."""
    masks = masks_of(graph)
    for many in range(most + 1):
        for own in combinations(range(len(graph)), many):
            if falls_apart(masks, mask_of(own)):
                return own
    return None


def connectivity(graph):
    """The connectivity of graph, 0 to 4."""
    if not graph:
        return 0
    cut = least_separator(graph, 3)
    return min(4, len(graph) - 1) if cut is None else len(cut)


def is_firm(graph):
    """Whether the connectivity is 3 or more; this asks for no SEPARATORS of three vertices."""
    return len(graph) > 3 and least_separator(graph, 2) is None


def is_unbroken(graph):
    """Whether graph has three vertices or more and is one BLOCK."""
    return len(graph) > 2 and blocks(graph) == (tuple(range(len(graph))),)


def close_block(held, a, parent):
    """Take the vertices from a on off held; with parent they are a BLOCK."""
    block = [parent]
    while block[-1] != a:
        block.append(held.pop())
    return tuple(sorted(block))


def blocks_from(graph, root, number):
    """The BLOCKS of the PIECE of root, gone through depth first; number keeps the order of all vertices that came."""
    number[root] = len(number)
    low = {root: number[root]}
    rest = {root: list(graph[root])}
    trail = [root]
    held = [root]
    found = []
    while trail:
        a = trail[-1]
        if rest[a]:
            b = rest[a].pop()
            if b in number:
                low[a] = min(low[a], number[b])
            else:
                number[b] = len(number)
                low[b] = number[b]
                rest[b] = list(graph[b])
                trail.append(b)
                held.append(b)
        else:
            trail.pop()
            if trail:
                parent = trail[-1]
                low[parent] = min(low[parent], low[a])
                if low[a] >= number[parent]:
                    found.append(close_block(held, a, parent))
    return found


def blocks(graph):
    """The set of the BLOCKS of graph."""
    number = {}
    found = []
    for root in range(len(graph)):
        if root not in number:
            found.extend(blocks_from(graph, root, number))
    return tuple(sorted(found))


def cut_vertices(graph):
    """The set of the vertices that are in two BLOCKS or more."""
    times = [0] * len(graph)
    for block in blocks(graph):
        for a in block:
            times[a] += 1
    return tuple([a for a, many in enumerate(times) if many > 1])


def less(graph, gone):
    """graph without the EDGES at the vertices of gone; all vertices stay."""
    return tuple([() if a in gone else tuple([b for b in row if b not in gone]) for a, row in enumerate(graph)])


def check_left(graph, gone, vertex):
    """Raise NoVertex unless vertex is a vertex of graph less gone."""
    if vertex in gone or vertex >= len(graph):
        raise NoVertex(vertex)


def block_with(lot, a, b):
    """The one of these BLOCKS that holds both ends of an EDGE."""
    for block in lot:
        if a in block and b in block:
            return block
    return None


def block_chain(graph, gone, a, b):
    """The BLOCKS of graph less gone from a to b, each with its first and its last vertex."""
    check_vertices(graph, gone)
    check_left(graph, gone, a)
    check_left(graph, gone, b)
    path = shortest_path(graph, a, b, gone)
    if path is None:
        raise CanNot()
    lot = blocks(less(graph, gone))
    # A PATH goes through each BLOCK but once, so the EDGES of one BLOCK follow one another.
    chain = []
    for c, d in zip(path, path[1:]):
        block = block_with(lot, c, d)
        first = chain.pop()[1] if chain and chain[-1][0] == block else c
        chain.append((block, first, d))
    return tuple(chain)


def triples_with(graph, vertex):
    """The set of the SEPARATORS of three vertices that hold vertex."""
    check_vertex(graph, vertex)
    return tuple([own for own in separators(graph, 3) if vertex in own])


def are_parted(masks, gone, a, b):
    """Whether no PATH leads from a to b off the vertices of the integer gone, in which neither is."""
    room = ((1 << len(masks)) - 1) & ~gone
    return not flooded(masks, a, room) >> b & 1


def is_between(graph, vertices, a, b):
    """Whether a and b are in two PIECES of graph less vertices."""
    check_vertices(graph, vertices)
    check_vertex(graph, a)
    check_vertex(graph, b)
    if a in vertices or b in vertices:
        return False
    return are_parted(masks_of(graph), mask_of(vertices), a, b)


def least_cut_between(graph, a, b):
    """A set with the fewest vertices, three at most, that parts a from b; None if there is none."""
    check_vertex(graph, a)
    check_vertex(graph, b)
    if a == b or b in graph[a]:
        return None
    masks = masks_of(graph)
    others = [c for c in range(len(graph)) if c != a and c != b]
    for many in range(4):
        for own in combinations(others, many):
            if are_parted(masks, mask_of(own), a, b):
                return own
    return None
