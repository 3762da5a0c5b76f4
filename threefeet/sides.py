"""What lies left and right of a CYCLE of PLANE TURNS, and the arcs of a CYCLE."""

from threefeet.errors import NoFace
from threefeet.turns import check_on, darts_of, face_table, is_face, least_begun


def lines_used(cycle):
    """The DARTS of cycle, both ways round."""
    used = {}
    for a, b in darts_of(cycle):
        used[(a, b)] = True
        used[(b, a)] = True
    return used


def left_faces(table, cycle):
    """The FACES left of cycle, table being the FACES of the DARTS."""
    used = lines_used(cycle)
    found = {}
    fresh = [table[dart] for dart in darts_of(cycle)]
    while fresh:
        face = fresh.pop()
        if face not in found:
            found[face] = True
            fresh.extend([table[(b, a)] for a, b in darts_of(face) if (a, b) not in used])
    return tuple(sorted(found))


def faces_left(turns, cycle):
    """The set of the FACES left of cycle."""
    return left_faces(face_table(turns), cycle)


def off(vertices, cycle):
    """The set of those vertices that are not on cycle."""
    return tuple(sorted(set([a for a in vertices if a not in cycle])))


def vertices_left(turns, cycle):
    """The set of the vertices off cycle that lie left of it."""
    found = []
    for face in faces_left(turns, cycle):
        found.extend(face)
    return off(found, cycle)


def sides(turns, cycle):
    """The pair of the vertices off cycle on its left and of those on its right."""
    left = vertices_left(turns, cycle)
    return left, off([a for a in range(len(turns)) if a not in left], cycle)


def counts_left(turns, cycle):
    """How many vertices off cycle, EDGES that it does not use, and FACES lie left of it."""
    used = lines_used(cycle)
    lot = faces_left(turns, cycle)
    # Left of the cycle an EDGE that it does not use has both its DARTS.
    darts = sum([len([dart for dart in darts_of(face) if dart not in used]) for face in lot])
    return len(vertices_left(turns, cycle)), darts // 2, len(lot)


def inside(disc, cycle):
    """The set of the vertices off cycle on the side where the outside of disc does not lie."""
    turns, rim = disc
    left, right = sides(turns, cycle)
    return right if least_begun(rim) in faces_left(turns, cycle) else left


def arc(cycle, a, b):
    """The PATH from a on, in the order of cycle, to b."""
    check_on(cycle, (a, b))
    start = cycle.index(a)
    turned_on = cycle[start:] + cycle[:start]
    return turned_on[:turned_on.index(b) + 1]


def alternate(cycle, a, b, c, d):
    """Whether one of c and d, and not the other, is on the arc from a to b, and all four are unlike."""
    check_on(cycle, (a, b, c, d))
    if len(set((a, b, c, d))) < 4:
        return False
    between = arc(cycle, a, b)
    return (c in between) != (d in between)


def common(line, other):
    """The set of the vertices that are on both lines."""
    return tuple(sorted([a for a in line if a in other]))


def edges_round(turns, faces):
    """The set of the EDGES that have just one of their two DARTS in these FACES."""
    held = {}
    for face in faces:
        if not is_face(turns, face):
            raise NoFace(face)
        for dart in darts_of(face):
            held[dart] = True
    return tuple(sorted([(min(dart), max(dart)) for dart in held if dart[::-1] not in held]))
