"""Walks home: closed walks over all vertices that come to each once or twice, and the main theorem."""

from threefeet.cuts import is_firm, is_separator, least_separator
from threefeet.discs import less_edge, rim_edges
from threefeet.drawings import can_draw, draw
from threefeet.errors import CanNot, Unfit
from threefeet.forbidden import forbidden, is_forbidden
from threefeet.graphs import check_edge, is_set, is_tuple_of
from threefeet.rounds import check_two, round_in, widest
from threefeet.strands import home_walk, is_thrifty, walk_with_strands
from threefeet.turns import faces, graph_in, is_plane
from threefeet.walks import begun_at, comes_over_all, edge_between, edge_uses, is_home, is_walk, triples_for, visits


def disc_home(disc, p, q):
    """A DISC HOME of disc, p and q."""
    check_two(disc, p, q)
    return home_walk(disc, p, q)


def is_disc_home(disc, p, q, thing):
    """Whether thing is a DISC HOME of disc, p and q."""
    check_two(disc, p, q)
    graph = graph_in(disc[0])
    if not is_walk(graph, thing) or not comes_over_all(graph, thing) or not is_thrifty(thing):
        return False
    told = visits(thing)
    if (p, 1) not in told or (q, 1) not in told:
        return False
    between = edge_between(p, q)
    return between not in rim_edges(disc) or (between, 1) in edge_uses(thing)


def open_home(disc, p, q):
    """A DISC HOME of disc, p and q that begins with p and ends with q."""
    check_two(disc, p, q)
    if edge_between(p, q) not in rim_edges(disc):
        raise CanNot()
    walk = begun_at(home_walk(disc, p, q), p)
    # p comes once, so q, which stands next to it, is the last one or the second one.
    return walk if walk[-1] == q else walk[:1] + walk[:0:-1]


def check_firm(turns):
    """Raise CanNot unless turns are PLANE and of connectivity 3 or more."""
    if not is_plane(turns) or not is_firm(graph_in(turns)):
        raise CanNot()


def closed_home(turns, edge):
    """A WALK over all vertices, each once or twice, the ends of edge once, that does not use edge."""
    check_edge(turns, edge)
    check_firm(turns)
    return home_walk(less_edge(turns, edge), edge[0], edge[1])


def home_round(turns, face):
    """A HOME of PLANE TURNS, led from an OWN ROUND in the DISC with this FACE as the rim."""
    cycle, own = round_in(turns, face)
    walk = walk_with_strands((turns, face), cycle, own)
    return walk, triples_for(graph_in(turns), walk)


def home(turns):
    """A HOME of the GRAPH of turns."""
    check_firm(turns)
    return home_round(turns, widest(faces(turns)))


def home_by(turns, edge):
    """A HOME whose walk uses edge just once."""
    check_edge(turns, edge)
    check_firm(turns)
    a, b = edge
    face = widest([own for own in faces(turns) if a in own and b in own])
    row = begun_at(face, a)
    if row[1] != b:
        row = begun_at(face, b)
    # The round goes by the first two vertices, but by the last two of three.
    return home_round(turns, row if len(row) > 3 else row[2:] + row[:2])


def check_fit(graph):
    """Raise Unfit if graph has fewer than four vertices."""
    if len(graph) < 4:
        raise Unfit()


def main(graph):
    """The word and the paper of the main theorem for graph."""
    check_fit(graph)
    cut = least_separator(graph, 2)
    if cut is not None:
        return "cut", cut
    if can_draw(graph):
        return "home", home(draw(graph))
    return "forbidden", forbidden(graph)


def is_small_cut(graph, thing):
    """Whether thing is a SEPARATOR of at most two vertices."""
    return is_set(thing, len(graph)) and len(thing) < 3 and is_separator(graph, thing)


def is_main(graph, thing):
    """Whether thing is one of the pairs that main may return."""
    check_fit(graph)
    if not is_tuple_of(thing, 2):
        return False
    word, paper = thing
    if word == "cut":
        return is_small_cut(graph, paper)
    if word == "home":
        return is_home(graph, paper)
    return word == "forbidden" and is_forbidden(graph, paper)


def sure_word(graph):
    """Which paper graph has: "cut", or else "forbidden", or else "home"."""
    check_fit(graph)
    if least_separator(graph, 2) is not None:
        return "cut"
    return "home" if can_draw(graph) else "forbidden"
