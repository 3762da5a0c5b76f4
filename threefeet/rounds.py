"""OWN ROUNDS of a DISC: THREE-FOOTED CYCLES with OWN FEET; and TOP ROUNDS of PLANE TURNS."""

from threefeet.discs import next_on_rim, rim_edges
from threefeet.errors import NoEdge, NoVertex, TooMany
from threefeet.graphs import is_cycle, is_tuple_of
from threefeet.ownfeet import foot_paper, is_own_feet, own_way
from threefeet.parts import is_three_footed, parts
from threefeet.turns import check_on, faces, graph_in
from threefeet.two import next_way
from threefeet.walks import edge_between

MOST = 8


def check_two(disc, p, q):
    """Raise NoVertex unless p and q are two unlike vertices of the rim."""
    check_on(disc[1], (p,))
    if q == p or q not in disc[1]:
        raise NoVertex(q)


def round_through(disc, p, q):
    """An OWN ROUND through p and q that spares both; it uses their EDGE if this is a RIM EDGE."""
    check_two(disc, p, q)
    v = next_on_rim(disc, p)
    after = next_on_rim(disc, q)
    # The PATH from v to p, closed by their EDGE, is the CYCLE.
    return next_way(disc, v, edge_between(q, after), p, edge_between(p, q))


def is_over(line, vertices):
    """Whether all of these vertices are on line."""
    for a in vertices:
        if a not in line:
            return False
    return True


def is_round(disc, spared, thing):
    """Whether thing is an OWN ROUND through all of spared that spares them."""
    if not is_tuple_of(thing, 2):
        return False
    cycle, own = thing
    graph = graph_in(disc[0])
    if not is_cycle(graph, cycle) or not is_over(cycle, spared) or not is_three_footed(disc, cycle):
        return False
    return is_own_feet(graph, cycle, spared, own)


def round_by(disc, edge, other):
    """An OWN ROUND by edge and other that spares both ends of other."""
    lot = rim_edges(disc)
    if edge not in lot:
        raise NoEdge(edge)
    if other not in lot or other == edge:
        raise NoEdge(other)
    return next_way(disc, other[0], edge, other[1], other)


def cycles_from(graph, a):
    """The CYCLES whose least vertex is a, each once, begun with a and going on to the lesser vertex next to it."""
    found = []
    fresh = [(a,)]
    while fresh:
        path = fresh.pop()
        if len(path) > 2 and path[1] < path[-1] and a in graph[path[-1]]:
            found.append(path)
        fresh.extend([path + (b,) for b in graph[path[-1]] if b > a and b not in path])
    return found


def all_rounds(disc):
    """The set of all THREE-FOOTED CYCLES."""
    if len(disc[0]) > MOST:
        raise TooMany()
    graph = graph_in(disc[0])
    found = []
    for a in range(len(graph)):
        found.extend([cycle for cycle in cycles_from(graph, a) if is_three_footed(disc, cycle)])
    return tuple(sorted(found))


def rounds_sparing(disc, spared):
    """How many THREE-FOOTED CYCLES go through all of spared and have OWN FEET that spare them."""
    graph = graph_in(disc[0])
    lot = [cycle for cycle in all_rounds(disc) if is_over(cycle, spared)]
    return len([cycle for cycle in lot if foot_paper(graph, cycle, spared)[0] == "own"])


def round_in(turns, face):
    """An OWN ROUND of four vertices or more in the DISC with this FACE as the rim.

    It uses the EDGE of the first two vertices of face, but that of the last two if face has three."""
    if len(face) > 3:
        return round_through((turns, face), face[0], face[1])
    a, b, c = face
    u = min([d for d in turns[a] if d not in face])
    # Closed by the EDGE of u and a the PATH is a CYCLE with the same PARTS.
    return own_way((turns, face), a, edge_between(b, c), u, u)


def widest(lot):
    """The first of these FACES with the most vertices."""
    most = max([len(face) for face in lot])
    return [face for face in lot if len(face) == most][0]


def top_round(turns):
    """A TOP ROUND of PLANE TURNS of connectivity 3 or more."""
    return round_in(turns, widest(faces(turns)))


def is_top_round(turns, thing):
    """Whether thing is a TOP ROUND of turns."""
    if not is_tuple_of(thing, 2):
        return False
    cycle, own = thing
    graph = graph_in(turns)
    if not is_cycle(graph, cycle) or len(cycle) < 4:
        return False
    if max([len(part[1]) for part in parts(graph, cycle)], default=0) > 3:
        return False
    return is_own_feet(graph, cycle, (), own)
