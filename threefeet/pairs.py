"""LIMBS: what pairs of vertices part a GRAPH into; and closed walks over all vertices, put together by LIMBS."""

from threefeet.cuts import blocks, least_separator
from threefeet.discs import meets, next_on_rim, places_of
from threefeet.drawings import draw
from threefeet.graphs import (
    are_joined, check_vertex, pieces, shortest_path, taken_out, with_edges, without_edges
)
from threefeet.homes import closed_home, disc_home, open_home
from threefeet.turns import face_of, graph_in
from threefeet.walks import begun_at, edge_between, is_walk, merged, steps_round, tallied, unpaired, visits


def torso(graph, limb):
    """The pair of the members of limb and of its torso, in which vertex k stands for the member in place k."""
    members, ties = limb
    places = places_of(members)
    names, small = taken_out(graph, members)
    return names, with_edges(small, tuple([(places[a], places[b]) for a, b in ties]))


def split_limb(graph, limb):
    """The LIMBS that come of limb at a pair of vertices less which its torso falls apart; () if there is none."""
    names, small = torso(graph, limb)
    pair = least_separator(small, 2)
    # The torso of an EDGE or of what is left of a BLOCK falls apart less no single vertex.
    if pair is None:
        return ()
    tie = tuple([names[k] for k in pair])
    found = []
    for piece in pieces(small, pair):
        members = tuple(sorted(tie + tuple([names[k] for k in piece])))
        ties = [own for own in limb[1] if own[0] in members and own[1] in members]
        found.append((members, tuple(sorted(set(ties + [tie])))))
    return tuple(found)


def split_apart(graph, block):
    """The LIMBS that come of this BLOCK when none can be split any more."""
    fresh = [(block, ())]
    found = []
    while fresh:
        limb = fresh.pop()
        lot = split_limb(graph, limb)
        if lot:
            fresh.extend(lot)
        else:
            found.append(limb)
    return found


def is_ring(graph, limb):
    """Whether the torso of limb is a CYCLE."""
    small = torso(graph, limb)[1]
    return max([len(row) for row in small]) == min([len(row) for row in small]) == 2


def tie_to_undo(graph, lot, rings):
    """A tie of two of these rings that is in no other LIMB of lot and is no EDGE; None if there is none."""
    for tie, many in tallied([tie for limb in lot for tie in limb[1]]):
        if many == 2 and not are_joined(graph, tie[0], tie[1]):
            if len([limb for limb in rings if tie in limb[1]]) == 2:
                return tie
    return None


def joined_limb(pair, tie):
    """The LIMB that comes of two by their common tie."""
    members = sorted(set(pair[0][0] + pair[1][0]))
    ties = sorted(set([own for own in pair[0][1] + pair[1][1] if own != tie]))
    return tuple(members), tuple(ties)


def limbs_of_block(graph, block):
    """The LIMBS of this BLOCK."""
    lot = split_apart(graph, block)
    rings = [limb for limb in lot if is_ring(graph, limb)]
    tie = tie_to_undo(graph, lot, rings)
    while tie is not None:
        pair = [limb for limb in rings if tie in limb[1]]
        new = joined_limb(pair, tie)
        lot = [limb for limb in lot if limb not in pair] + [new]
        rings = [limb for limb in rings if limb not in pair] + [new]
        tie = tie_to_undo(graph, lot, rings)
    return lot


def limbs(graph):
    """The set of the LIMBS of graph."""
    found = []
    for block in blocks(graph):
        found.extend(limbs_of_block(graph, block))
    return tuple(sorted(found))


def holding(lot, vertex):
    """How many of these LIMBS have vertex among their members."""
    return len([limb for limb in lot if vertex in limb[0]])


def limbs_holding(graph, vertex):
    """How many LIMBS have vertex among their members."""
    check_vertex(graph, vertex)
    return holding(limbs(graph), vertex)


def limb_pairs(graph):
    """The set of the pairs of a tie and of the number of the LIMBS that have it."""
    return tallied([tie for limb in limbs(graph) for tie in limb[1]])


def visits_let(graph):
    """How often a WALK by the LIMBS may come to all vertices together."""
    return len(graph) + sum([len(limb[0]) for limb in limbs(graph)])


def put_in(walk, closed, a):
    """walk with closed, in which a comes once, put in behind the first a."""
    at = walk.index(a)
    return walk[:at + 1] + begun_at(closed, a)[1:] + walk[at:]


def filled(walk, fillings):
    """walk with what fillings tells for each of its steps put in between."""
    found = []
    for a, b in steps_round(walk):
        found.append(a)
        found.extend(fillings.get((a, b), ()))
    return tuple(found)


def spliced(walk, edge, closed, opened, stays):
    """walk with closed, or with opened in the place of its step over edge."""
    a, b = edge
    over = [step for step in steps_round(walk) if edge_between(step[0], step[1]) == edge]
    if stays or not over:
        return put_in(walk, closed, a)
    if len(over) == 1:
        inner = opened[1:-1]
        return filled(walk, {(a, b): inner, (b, a): inner[::-1]})
    if over[0] != over[1]:
        row = begun_at(closed, a)
        at = row.index(b)
        return filled(walk, {(a, b): row[1:at], (b, a): row[at + 1:]})
    return put_in(unpaired(walk, edge), closed, a)


def ring_row(small):
    """The vertices of a GRAPH that is a CYCLE, in its order."""
    last = small[0][1]
    return shortest_path(without_edges(small, ((0, last),)), 0, last, ())


def renamed(names, line):
    """line with names[k] in the place of each vertex k."""
    return tuple([names[k] for k in line])


def limb_walk(graph, limb, vertex):
    """A WALK over the torso of limb, in which each member comes once or twice and vertex once."""
    names, small = torso(graph, limb)
    if len(small) == 2:
        return names
    if is_ring(graph, limb):
        return renamed(names, ring_row(small))
    turns = draw(small)
    p = names.index(vertex)
    disc = (turns, face_of(turns, p, turns[p][0]))
    return renamed(names, disc_home(disc, p, next_on_rim(disc, p)))


def limb_at_tie(graph, limb, tie):
    """The closed and the opened walk over limb by which it is spliced at its tie."""
    names, small = torso(graph, limb)
    p, q = names.index(tie[0]), names.index(tie[1])
    if is_ring(graph, limb):
        opened = shortest_path(without_edges(small, ((p, q),)), p, q, ())
        closed = opened + opened[-2:0:-1]
    else:
        turns = draw(small)
        opened = open_home((turns, face_of(turns, p, q)), p, q)
        closed = closed_home(turns, (p, q))
    return renamed(names, closed), renamed(names, opened)


def next_limb(rest, ties, walk):
    """One of these LIMBS with a tie of ties, and this; if there is none one with a vertex of walk, and None."""
    for limb in rest:
        for tie in limb[1]:
            if tie in ties:
                return limb, tie
    for limb in rest:
        if meets(limb[0], walk):
            return limb, None
    return None


def home_by_limbs(turns):
    """A WALK that comes to each vertex at least once and at most once more than there are LIMBS that hold it."""
    graph = graph_in(turns)
    rest = list(limbs(graph))
    walk = (0,)
    ties = []
    while rest:
        limb, tie = next_limb(rest, ties, walk)
        rest.remove(limb)
        ties.extend(limb[1])
        if tie is not None:
            closed, opened = limb_at_tie(graph, limb, tie)
            walk = spliced(walk, tie, closed, opened, are_joined(graph, tie[0], tie[1]))
        else:
            c = [a for a in limb[0] if a in walk][0]
            own = limb_walk(graph, limb, c)
            walk = merged(walk, own, c) if len(walk) > 1 else begun_at(own, c)
    return walk


def is_home_by_limbs(graph, thing):
    """Whether thing is a WALK as home_by_limbs returns it."""
    if not is_walk(graph, thing):
        return False
    lot = limbs(graph)
    told = visits(thing)
    if len(told) != len(graph):
        return False
    for vertex, times in told:
        if times > 1 + holding(lot, vertex):
            return False
    return True
