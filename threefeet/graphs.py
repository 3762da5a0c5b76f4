"""GRAPHS: tuples of the sets of the neighbours, with their EDGES, PIECES, PATHS and CYCLES."""

from threefeet.errors import NoEdge, NoVertex


def is_number(thing):
    """Whether thing is an integer from 0 on; True and False are none."""
    return isinstance(thing, int) and not isinstance(thing, bool) and thing >= 0


def are_numbers(thing):
    """Whether thing is a tuple of numbers."""
    if not isinstance(thing, tuple):
        return False
    for a in thing:
        if not is_number(a):
            return False
    return True


def are_vertices(thing, size):
    """Whether thing is a tuple of numbers below size."""
    return are_numbers(thing) and (not thing or max(thing) < size)


def are_unlike(numbers):
    """Whether no number stands twice in this tuple."""
    return len(set(numbers)) == len(numbers)


def is_set(thing, size):
    """Whether thing is a set of numbers below size."""
    return are_vertices(thing, size) and tuple(sorted(set(thing))) == thing


def is_tuple_of(thing, many):
    """Whether thing is a tuple of so many things."""
    return isinstance(thing, tuple) and len(thing) == many


def are_rows(thing):
    """Whether thing is a tuple of tuples of unlike vertices, none of them in its own tuple."""
    if not isinstance(thing, tuple):
        return False
    for a, row in enumerate(thing):
        if not are_vertices(row, len(thing)) or a in row or not are_unlike(row):
            return False
    return True


def rows_back(rows):
    """For each vertex the set of those in whose rows it stands."""
    back = [[] for _ in rows]
    for a, row in enumerate(rows):
        for b in row:
            back[b].append(a)
    return tuple([tuple(row) for row in back])


def check_vertex(graph, vertex):
    """Raise NoVertex unless vertex is a vertex of graph, which may be TURNS as well."""
    if not 0 <= vertex < len(graph):
        raise NoVertex(vertex)


def check_vertices(graph, vertices):
    """Raise NoVertex for the first of vertices that is none."""
    for vertex in vertices:
        check_vertex(graph, vertex)


def are_joined(graph, a, b):
    """Whether the numbers a and b are two neighbours of graph, which may be TURNS as well."""
    return 0 <= a < len(graph) and b in graph[a]


def check_edge(graph, edge):
    """Raise NoEdge unless edge is an EDGE of graph, which may be TURNS as well."""
    a, b = edge
    if a >= b or not are_joined(graph, a, b):
        raise NoEdge(edge)


def is_graph(thing):
    """Whether thing is a GRAPH."""
    # Read the other way round a GRAPH tells the same neighbours, ascending.
    return are_rows(thing) and rows_back(thing) == thing


def graph_of(size, edges):
    """The GRAPH of size vertices with these pairs as its EDGES."""
    return with_edges(((),) * size, edges)


def edges_of(graph):
    """The set of the EDGES of graph."""
    found = []
    for a, row in enumerate(graph):
        found.extend([(a, b) for b in row if a < b])
    return tuple(found)


def gather(graph, start, seen):
    """The PIECE that holds start, of the vertices that are not in seen; they come into seen."""
    seen[start] = True
    piece = [start]
    fresh = [start]
    while fresh:
        for b in graph[fresh.pop()]:
            if b not in seen:
                seen[b] = True
                piece.append(b)
                fresh.append(b)
    return tuple(sorted(piece))


def pieces(graph, gone):
    """The set of the PIECES of graph less gone."""
    check_vertices(graph, gone)
    seen = {a: True for a in gone}
    found = []
    for a in range(len(graph)):
        if a not in seen:
            found.append(gather(graph, a, seen))
    return tuple(found)


def reach(graph, a, b, gone):
    """For each vertex that is reached from a no later than b: the one before it."""
    before = {a: a}
    fresh = [a]
    while fresh and b not in before:
        further = []
        for c in fresh:
            for d in graph[c]:
                if d not in before and d not in gone:
                    before[d] = c
                    further.append(d)
        fresh = further
    return before


def shortest_path(graph, a, b, gone):
    """A PATH from a to b off gone, with the fewest vertices; None if there is none."""
    check_vertex(graph, a)
    check_vertex(graph, b)
    check_vertices(graph, gone)
    if a in gone or b in gone:
        return None
    before = reach(graph, a, b, gone)
    if b not in before:
        return None
    path = [b]
    while path[-1] != a:
        path.append(before[path[-1]])
    return tuple(path[::-1])


def with_edges(graph, edges):
    """graph with these EDGES as well."""
    rows = [list(row) for row in graph]
    for edge in edges:
        a, b = edge
        if a == b or not 0 <= min(a, b) <= max(a, b) < len(rows):
            raise NoEdge(edge)
        rows[a].append(b)
        rows[b].append(a)
    return tuple([tuple(sorted(set(row))) for row in rows])


def without_edges(graph, edges):
    """graph without these EDGES."""
    gone = {}
    for edge in edges:
        a, b = edge
        if not are_joined(graph, a, b):
            raise NoEdge(edge)
        gone[(a, b)] = True
        gone[(b, a)] = True
    return tuple([tuple([b for b in row if (a, b) not in gone]) for a, row in enumerate(graph)])


def drawn_together(graph, edge):
    """The GRAPH that comes if the lesser end of edge takes over the neighbours of the other end."""
    check_edge(graph, edge)
    a, b = edge
    names = [c - 1 if c > b else c for c in range(len(graph))]
    names[b] = a
    rows = []
    for c, row in enumerate(graph):
        own = row + graph[b] if c == a else row
        if c != b:
            rows.append(tuple(sorted({names[d] for d in own if names[d] != names[c]})))
    return tuple(rows)


def taken_out(graph, members):
    """The pair of members and the GRAPH of these alone, numbered anew."""
    check_vertices(graph, members)
    places = {name: k for k, name in enumerate(members)}
    rows = [tuple([places[b] for b in graph[a] if b in places]) for a in members]
    return members, tuple(rows)


def is_path(graph, thing):
    """Whether thing is a PATH of graph."""
    if not are_vertices(thing, len(graph)) or not thing or not are_unlike(thing):
        return False
    for a, b in zip(thing, thing[1:]):
        if b not in graph[a]:
            return False
    return True


def is_cycle(graph, thing):
    """Whether thing is a CYCLE of graph."""
    return is_path(graph, thing) and len(thing) > 2 and thing[0] in graph[thing[-1]]


def masks_of(graph):
    """The neighbours of each vertex as one integer, in which vertex k is the bit of weight 2 ** k."""
    return [mask_of(row) for row in graph]


def mask_of(vertices):
    """These vertices as one integer."""
    mask = 0
    for a in vertices:
        mask |= 1 << a
    return mask


def bits_of(mask):
    """The vertices of this integer, ascending."""
    found = []
    while mask:
        low = mask & -mask
        found.append(low.bit_length() - 1)
        mask ^= low
    return found


def flooded(masks, start, room):
    """The integer of the vertices of room that are joined to the vertex start within room."""
    found = 1 << start
    fresh = found
    while fresh:
        low = fresh & -fresh
        further = masks[low.bit_length() - 1] & room & ~found
        found |= further
        fresh = (fresh ^ low) | further
    return found
