"""STRANDS: the chain of BLOCKS in which a PART of a CYCLE hangs at one of its feet, and WALKS over it."""

from threefeet.cuts import blocks, less
from threefeet.discs import block_disc, meets, places_of
from threefeet.errors import CanNot
from threefeet.graphs import are_numbers, is_number, is_tuple_of
from threefeet.parts import feet_of, parts
from threefeet.rounds import round_through
from threefeet.turns import graph_in
from threefeet.walks import begun_at, edge_uses, is_walk, visits
from threefeet.ways import others_than


def strand_blocks(disc, members, foot):
    """The BLOCKS of the strand graph."""
    return blocks(less(graph_in(disc[0]), others_than(disc, members + (foot,))))


def others_of(disc, cycle, members, foot):
    """The OTHERS: the feet of the PART but foot, and the outside if it is on the rim."""
    turns, rim = disc
    found = [a for a in feet_of(turns, cycle, members) if a != foot]
    if meets(members, rim):
        found.append(len(turns))
    return found


def touched(disc, others, vertices):
    """Those of the OTHERS that one of these vertices touches."""
    turns, rim = disc
    found = []
    for other in others:
        near = rim if other == len(turns) else turns[other]
        if meets(vertices, near):
            found.append(other)
    return found


def outside_feet(disc, cycle, members, vertex):
    """The set of the feet of the PART next to vertex, and the number of the outside if it is on the rim."""
    feet = feet_of(disc[0], cycle, members) + (len(disc[0]),)
    return tuple(touched(disc, feet, (vertex,)))


def strand_disc(disc, members, foot, block):
    """The pair of block, one of the strand graph, and of its DISC drawn alone."""
    if len(block) == 2:
        raise CanNot()
    return block_disc(disc, others_than(disc, members + (foot,)), block)


def change_overs_in(disc, cycle, members, foot, block, first):
    """The set of the CHANGE-OVERS, block being the last one of the STRAND."""
    if len(block) == 2:
        return tuple([a for a in block if a != first])
    names, own = strand_disc(disc, members, foot, block)
    rim = begun_at(tuple([names[a] for a in own[1]]), first)
    others = others_of(disc, cycle, members, foot)
    found = []
    for k in range(1, len(rim)):
        arcs = (rim[1:k], rim[k + 1:])
        if max([len(touched(disc, others, arc)) for arc in arcs]) < 2:
            found.append(rim[k])
    return tuple(sorted(found))


def joint(block, rest):
    """The vertex of block that is in one of the other BLOCKS as well."""
    for other in rest:
        for a in block:
            if a in other:
                return a
    return None


def links_from(disc, members, foot):
    """The triples of the STRAND but the last one, and the block and the first vertex of this."""
    rest = list(strand_blocks(disc, members, foot))
    links = []
    first = foot
    while len(rest) > 1:
        block = [own for own in rest if first in own][0]
        rest.remove(block)
        last = joint(block, rest)
        links.append((block, first, last))
        first = last
    return links, rest[0], first


def change_overs(disc, cycle, members, foot):
    """The set of the CHANGE-OVERS."""
    _, block, first = links_from(disc, members, foot)
    return change_overs_in(disc, cycle, members, foot, block, first)


def strand(disc, cycle, members, foot):
    """A STRAND."""
    links, block, first = links_from(disc, members, foot)
    overs = change_overs_in(disc, cycle, members, foot, block, first)
    return tuple(links + [(block, first, overs[0])])


def is_link(thing):
    """Whether thing is a triple of a tuple of numbers and two numbers."""
    if not is_tuple_of(thing, 3):
        return False
    block, first, last = thing
    return are_numbers(block) and is_number(first) and is_number(last)


def is_strand(disc, cycle, members, foot, thing):
    """Whether thing is a STRAND."""
    links, block, first = links_from(disc, members, foot)
    if not is_tuple_of(thing, len(links) + 1):
        return False
    for own in thing:
        if not is_link(own):
            return False
    if list(thing[:-1]) != links or thing[-1][:2] != (block, first):
        return False
    return thing[-1][2] in change_overs_in(disc, cycle, members, foot, block, first)


def home_walk(disc, p, q):
    """A DISC HOME of disc, p and q, begun with p."""
    cycle, own = round_through(disc, p, q)
    return walk_with_strands(disc, begun_at(cycle, p), own)


def walk_with_strands(disc, cycle, own):
    """cycle with a strand walk over each of its PARTS put in behind the own foot of this."""
    lot = parts(graph_in(disc[0]), cycle)
    taken = {foot: part[0] for foot, part in zip(own, lot)}
    walk = ()
    for a in cycle:
        walk = walk + (a,)
        if a in taken:
            walk = walk + strand_walk(disc, cycle, taken[a], a)[1:] + (a,)
    return walk


def link_walk(disc, members, foot, link):
    """A WALK over the BLOCK of link, begun with its first vertex, in which the first and the last come once."""
    block, first, last = link
    if len(block) == 2:
        return first, last
    names, own = strand_disc(disc, members, foot, block)
    places = places_of(names)
    return tuple([names[a] for a in home_walk(own, places[first], places[last])])


def strand_walk(disc, cycle, members, foot):
    """A WALK over members and foot that begins with foot."""
    walk = ()
    for link in strand(disc, cycle, members, foot)[::-1]:
        line = link_walk(disc, members, foot, link)
        if walk:
            at = line.index(walk[0])
            line = line[:at] + walk + line[at:]
        walk = line
    return walk


def is_thrifty(walk):
    """Whether walk uses no EDGE more than twice."""
    return max([times for _, times in edge_uses(walk)], default=0) < 3


def is_strand_walk(disc, cycle, members, foot, thing):
    """Whether thing is a WALK over just members and foot as strand_walk returns it."""
    if not is_walk(graph_in(disc[0]), thing) or thing[0] != foot or not is_thrifty(thing):
        return False
    told = visits(thing)
    if tuple([a for a, _ in told]) != tuple(sorted(members + (foot,))):
        return False
    return max([times for a, times in told if a != foot]) < 3 and (foot, 1) in told
