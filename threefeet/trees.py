"""TREES with few EDGES at each vertex, and the ways along them."""

from threefeet.discs import next_on_rim
from threefeet.drawings import is_pair
from threefeet.graphs import are_joined, check_vertex, graph_of, is_tuple_of, pieces, shortest_path
from threefeet.homes import check_firm, closed_home, disc_home
from threefeet.turns import check_on
from threefeet.walks import begun_at, edge_between, first_comings


def are_edges(graph, thing):
    """Whether thing, a tuple, is a set of EDGES of graph."""
    for edge in thing:
        if not is_pair(edge) or edge[0] >= edge[1] or not are_joined(graph, edge[0], edge[1]):
            return False
    return tuple(sorted(set(thing))) == thing


def is_tree(graph, thing):
    """Whether thing is a TREE of graph."""
    if not is_tuple_of(thing, len(graph) - 1) or not are_edges(graph, thing):
        return False
    return len(pieces(graph_of(len(graph), thing), ())) == 1


def is_low_tree(graph, leaf, thing):
    """Whether thing is a TREE of graph that is low for leaf."""
    check_vertex(graph, leaf)
    if not is_tree(graph, thing):
        return False
    told = degrees(len(graph), thing)
    return max(told) < 4 and told[leaf] == 1


def graph_along(tree):
    """The GRAPH whose EDGES are those of tree."""
    return graph_of(len(tree) + 1, tree)


def degrees(size, tree):
    """For each of size vertices how many EDGES of tree it has."""
    return tuple([len(row) for row in graph_of(size, tree)])


def tree_path(tree, a, b):
    """The PATH from a to b by EDGES of tree alone."""
    return shortest_path(graph_along(tree), a, b, ())


def walk_round(tree, vertex):
    """A WALK begun with vertex that uses each EDGE of tree twice and no other; (vertex,) if there are none."""
    graph = graph_along(tree)
    check_vertex(graph, vertex)
    rest = [list(row) for row in graph]
    trail = [vertex]
    walk = []
    while trail:
        a = trail[-1]
        walk.append(a)
        if rest[a]:
            b = rest[a].pop()
            rest[b].remove(a)
            trail.append(b)
        else:
            trail.pop()
    # The last place is vertex again, by the step that closes the walk.
    return tuple(walk[:max(1, 2 * len(tree))])


def tree_from(walk, leaf):
    """The TREE of the EDGES by which the vertices of walk, begun with leaf, come first.

    At most one of them goes on from each coming, and one leads to each vertex but leaf."""
    return first_comings(begun_at(walk, leaf))


def tree(turns, leaf):
    """A TREE of the GRAPH of turns that is low for leaf."""
    check_vertex(turns, leaf)
    check_firm(turns)
    return tree_from(closed_home(turns, edge_between(leaf, turns[leaf][0])), leaf)


def disc_tree(disc, leaf):
    """A TREE of the GRAPH of disc that is low for leaf, a vertex of the rim."""
    check_on(disc[1], (leaf,))
    return tree_from(disc_home(disc, leaf, next_on_rim(disc, leaf)), leaf)
