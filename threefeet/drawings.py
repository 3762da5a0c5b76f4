"""Which GRAPHS can be drawn, drawings of them, and JOIN ROWS."""

from threefeet.cuts import blocks, is_firm
from threefeet.errors import CanNot, NoPaper
from threefeet.graphs import (
    are_joined, are_numbers, bits_of, check_edge, drawn_together, edges_of, flooded, mask_of, masks_of, pieces
)
from threefeet.turns import are_same, begun, graph_in, is_plane, mirrored


def line_through(near, a, b, room):
    """A PATH from a to b with one inner vertex at least, all of them in room; there is one."""
    before = {c: a for c in bits_of(near[a] & room)}
    queue = list(before)
    at = 0
    while not near[queue[at]] >> b & 1:
        for c in bits_of(near[queue[at]] & room):
            if c not in before:
                before[c] = queue[at]
                queue.append(c)
        at += 1
    line = [b, queue[at]]
    while line[-1] != a:
        line.append(before[line[-1]])
    return tuple(line[::-1])


def first_ring(near, block):
    """A CYCLE of this BLOCK."""
    a = block[0]
    b = bits_of(near[a])[0]
    return line_through(near, a, b, mask_of(block) & ~mask_of((a, b)))


def join_up(drawn, line):
    """Note in drawn, the drawn neighbours of each vertex, the EDGES of this line."""
    for a, b in zip(line, line[1:]):
        drawn[a] |= 1 << b
        drawn[b] |= 1 << a


def hanging_pieces(near, room, border):
    """What hangs in room: each PIECE as a pair of integers, its members and its ends on border."""
    found = []
    while room:
        members = flooded(near, room.bit_length() - 1, room)
        ends = 0
        for a in bits_of(members):
            ends |= near[a] & border
        found.append((members, ends))
        room &= ~members
    return found


def hanging_edges(near, drawn, fresh, border):
    """The EDGES that are not drawn from vertices of fresh to border, as pairs without members."""
    found = []
    for a in bits_of(fresh):
        for b in bits_of(near[a] & border & ~drawn[a]):
            if a < b or not fresh >> b & 1:
                found.append((0, mask_of((a, b))))
    return found


def fewest_faces(hanging, sketch):
    """The place of what fits into the fewest FACES of sketch, and these; its second part is () if one fits nowhere."""
    masks = [mask_of(face) for face in sketch]
    best = None
    for k, (_, ends) in enumerate(hanging):
        fits = [at for at, mask in enumerate(masks) if not ends & ~mask]
        if best is None or len(fits) < len(best[1]):
            best = (k, fits)
    return best


def split_face(face, line):
    """The two FACES that a line across face, from one of its vertices to another one, makes of it."""
    start = face.index(line[0])
    face = face[start:] + face[:start]
    end = face.index(line[-1])
    inner = line[1:-1]
    return face[:end + 1] + inner[::-1], face[end:] + face[:1] + inner


def block_faces(masks, block):
    """The FACES of a drawing of a BLOCK of three vertices or more; None if it cannot be drawn."""
    room = mask_of(block)
    near = [mask & room for mask in masks]
    ring = first_ring(near, block)
    drawn = [0] * len(near)
    join_up(drawn, ring + ring[:1])
    border = mask_of(ring)
    hanging = hanging_pieces(near, room & ~border, border) + hanging_edges(near, drawn, border, border)
    sketch = [ring, ring[::-1]]
    while hanging:
        at, fits = fewest_faces(hanging, sketch)
        if not fits:
            return None
        members, ends = hanging.pop(at)
        first, second = bits_of(ends)[:2]
        line = line_through(near, first, second, members) if members else (first, second)
        sketch.extend(split_face(sketch.pop(fits[0]), line))
        join_up(drawn, line)
        fresh = mask_of(line[1:-1])
        # Nothing but what hung here changes: the rest of it hangs on its old ends and on the line.
        hanging.extend(hanging_pieces(near, members & ~fresh, ends | fresh))
        hanging.extend(hanging_edges(near, drawn, fresh, ends | fresh))
    return sketch


def rows_round(sketch):
    """For each vertex its turn, told by the FACES of a drawing of a BLOCK."""
    behind = {}
    for face in sketch:
        for k, b in enumerate(face):
            if b not in behind:
                behind[b] = {}
            behind[b][face[k - 1]] = face[(k + 1) % len(face)]
    rows = {}
    for b, turn in behind.items():
        row = [min(turn)]
        while turn[row[-1]] != row[0]:
            row.append(turn[row[-1]])
        rows[b] = row
    return rows


def sketched(graph):
    """TURNS of graph in which each PIECE is drawn; None if it cannot be drawn."""
    size = len(graph)
    if size > 2 and len(edges_of(graph)) > 3 * size - 6:
        return None
    masks = masks_of(graph)
    rows = [[] for _ in graph]
    for block in blocks(graph):
        if len(block) == 2:
            rows[block[0]].append(block[1])
            rows[block[1]].append(block[0])
        else:
            sketch = block_faces(masks, block)
            if sketch is None:
                return None
            for a, row in rows_round(sketch).items():
                rows[a].extend(row)
    return begun([tuple(row) for row in rows])


def can_draw(graph):
    """Whether graph can be drawn."""
    return sketched(graph) is not None


def draw(graph):
    """TURNS that draw graph."""
    if len(pieces(graph, ())) != 1:
        raise CanNot()
    turns = sketched(graph)
    if turns is None:
        raise NoPaper()
    return turns


def is_drawing(graph, thing):
    """Whether thing is TURNS that draw graph."""
    return is_plane(thing) and graph_in(thing) == graph


def may_join(graph, edge):
    """Whether graph has a connectivity of 3 or more, and still has it if edge is drawn together."""
    check_edge(graph, edge)
    return is_firm(graph) and is_firm(drawn_together(graph, edge))


def first_to_join(graph):
    """The least EDGE that can be drawn together so that the connectivity stays 3 or more."""
    for edge in edges_of(graph):
        if is_firm(drawn_together(graph, edge)):
            return edge
    return None


def join_row(graph):
    """A JOIN ROW of graph."""
    if not is_firm(graph):
        raise CanNot()
    row = []
    while len(graph) > 4:
        row.append(first_to_join(graph))
        graph = drawn_together(graph, row[-1])
    return tuple(row)


def is_pair(thing):
    """Whether thing is a pair of numbers."""
    return are_numbers(thing) and len(thing) == 2


def may_step(graph, edge):
    """Whether edge is an EDGE of graph both ends of which have three neighbours or more."""
    a, b = edge
    return a < b and are_joined(graph, a, b) and len(graph[a]) > 2 and len(graph[b]) > 2


def is_join_row(graph, thing):
    """Whether thing is a JOIN ROW of graph."""
    if not isinstance(thing, tuple) or len(thing) != len(graph) - 4:
        return False
    for edge in thing:
        if not is_pair(edge) or not may_step(graph, edge):
            return False
        graph = drawn_together(graph, edge)
    return graph == ((1, 2, 3), (0, 2, 3), (0, 1, 3), (0, 1, 2))


def alike(turns, other):
    """Whether other is the same as turns, or as turns backwards."""
    return are_same(turns, other) or are_same(mirrored(turns), other)
