"""TURNS: the orders of the neighbours round the vertices, with their FACES."""

from threefeet.errors import CanNot, NoEdge, NoFace, NoVertex
from threefeet.graphs import are_joined, are_rows, check_edge, check_vertex, edges_of, is_cycle, pieces, rows_back


def is_turns(thing):
    """Whether thing is TURNS, each turn begun anywhere."""
    return are_rows(thing) and rows_back(thing) == graph_in(thing)


def graph_in(turns):
    """The GRAPH of turns."""
    return tuple([tuple(sorted(row)) for row in turns])


def begun_least(row):
    """A tuple of unlike numbers, begun with the least one."""
    if not row:
        return ()
    at = row.index(min(row))
    return row[at:] + row[:at]


def begun(turns):
    """The same TURNS, each turn begun with its least vertex."""
    return tuple([begun_least(row) for row in turns])


def are_same(turns, other):
    """Whether both are equal once each turn begins with its least vertex."""
    return begun(turns) == begun(other)


def turned(turns):
    """For each DART (a, b) the vertex behind a in the turn of b."""
    behind = {}
    for b, row in enumerate(turns):
        for a, c in zip(row, row[1:] + row[:1]):
            behind[(a, b)] = c
    return behind


def trace(behind, a, b):
    """The FACE with the DART (a, b), begun with this DART."""
    face = [a]
    c, d = b, behind[(a, b)]
    while (c, d) != (a, b):
        face.append(c)
        c, d = d, behind[(c, d)]
    return tuple(face)


def darts_of(face):
    """The DARTS of a FACE or of a CYCLE, in its order."""
    return list(zip(face, face[1:] + face[:1]))


def least_begun(face):
    """A FACE, begun so that it is the least such tuple."""
    if not face:
        return ()
    low = min(face)
    return min([face[k:] + face[:k] for k, a in enumerate(face) if a == low])


def faces_begun(turns):
    """Each FACE but (), begun with some DART of it."""
    behind = turned(turns)
    seen = {}
    found = []
    for a, b in behind:
        if (a, b) not in seen:
            face = trace(behind, a, b)
            found.append(face)
            for dart in darts_of(face):
                seen[dart] = True
    return found


def face_table(turns):
    """For each DART the FACE with it."""
    table = {}
    for face in faces_begun(turns):
        own = least_begun(face)
        for dart in darts_of(face):
            table[dart] = own
    return table


def face_of(turns, a, b):
    """The FACE with the DART (a, b)."""
    if not are_joined(turns, a, b):
        raise NoEdge((min(a, b), max(a, b)))
    return least_begun(trace(turned(turns), a, b))


def is_face(turns, face):
    """Whether a tuple of numbers is a FACE of turns, begun anywhere."""
    if len(face) < 2:
        return face == () and () in turns
    if not are_joined(turns, face[0], face[1]):
        return False
    return trace(turned(turns), face[0], face[1]) == face


def check_face(turns, face):
    """Raise NoFace unless face is a FACE of turns."""
    if not is_face(turns, face):
        raise NoFace(face)


def faces(turns):
    """The set of all FACES."""
    found = [least_begun(face) for face in faces_begun(turns)]
    if () in turns:
        found.append(())
    return tuple(sorted(found))


def euler(turns):
    """How many vertices there are, less the EDGES, and the FACES added."""
    many = len(faces_begun(turns)) + turns.count(())
    return len(turns) - len(edges_of(turns)) + many


def is_plane(thing):
    """Whether thing is PLANE TURNS."""
    return is_turns(thing) and len(pieces(thing, ())) == 1 and euler(thing) == 2


def mirrored(turns):
    """Each turn backwards."""
    return begun([row[::-1] for row in turns])


def faces_at(turns, vertex):
    """The FACES with the DARTS from vertex, in the order of its turn."""
    check_vertex(turns, vertex)
    behind = turned(turns)
    return tuple([least_begun(trace(behind, vertex, b)) for b in begun_least(turns[vertex])])


def check_on(face, vertices):
    """Raise NoVertex for the first of vertices that is not on face."""
    for vertex in vertices:
        if vertex not in face:
            raise NoVertex(vertex)


def put_into(rows, face, b, c):
    """Set c into the turn of b where face, a CYCLE, comes by."""
    before = face[face.index(b) - 1]
    rows[b].insert(rows[b].index(before) + 1, c)


def told(rows):
    """These lists as TURNS."""
    return begun([tuple(row) for row in rows])


def with_chord(turns, face, a, b):
    """The TURNS with an EDGE more, between a and b, across face."""
    check_face(turns, face)
    check_on(face, (a, b))
    if not is_cycle(turns, face) or a == b or are_joined(turns, a, b):
        raise CanNot()
    rows = [list(row) for row in turns]
    put_into(rows, face, a, b)
    put_into(rows, face, b, a)
    return told(rows)


def with_star(turns, face, ends):
    """The TURNS with a vertex more in face, joined to each of ends."""
    check_face(turns, face)
    check_on(face, ends)
    if not is_cycle(turns, face):
        raise CanNot()
    rows = [list(row) for row in turns]
    for b in ends:
        put_into(rows, face, b, len(turns))
    rows.append([b for b in face if b in ends][::-1])
    return told(rows)


def halved(turns, edge):
    """The TURNS with a vertex more on this EDGE."""
    check_edge(turns, edge)
    a, b = edge
    rows = [list(row) for row in turns]
    rows[a][rows[a].index(b)] = len(turns)
    rows[b][rows[b].index(a)] = len(turns)
    rows.append([a, b])
    return told(rows)


def without_edge(turns, edge):
    """The TURNS without this EDGE."""
    check_edge(turns, edge)
    a, b = edge
    rows = [list(row) for row in turns]
    rows[a].remove(b)
    rows[b].remove(a)
    return told(rows)
