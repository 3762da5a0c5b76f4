"""WAYS: THREE-FOOTED PATHS from a vertex of the rim of a DISC through a RIM EDGE to any other vertex."""

from threefeet.chains import all_sides, chain, chain_exit, check_ask, check_goal, check_start, hung_at
from threefeet.cuts import block_chain
from threefeet.discs import block_disc, disc_of, next_on_rim, places_of
from threefeet.errors import CanNot
from threefeet.stretches import led_anew, standing, stretch_vertices, stretches
from threefeet.turns import check_on, darts_of, graph_in
from threefeet.walks import edge_between


def others_than(disc, vertices):
    """The set of all vertices of disc but these."""
    return tuple([a for a in range(len(disc[0])) if a not in vertices])


def corners_round(turns, held, dart, end):
    """What stands outside in the corners of the vertices of held, going round them from this DART up to end.

    A pair (a, b) tells that b, which is not in held, stands in a corner of a."""
    found = []
    a, b = dart
    while b != end:
        at = turns[b].index(a)
        turn = turns[b][at + 1:] + turns[b][:at + 1]
        width = min([k for k, c in enumerate(turn) if c in held])
        found.extend([(b, c) for c in turn[:width]])
        a, b = b, turn[width]
    return found


def outer_dart(disc, arc, stretch):
    """The DART by which the last step of the stretch goes round the outside, and the end where this comes back."""
    first, last = arc[stretch[0]], arc[stretch[1]]
    if next_on_rim(disc, arc[0]) == arc[1]:
        return (arc[stretch[1] - 1], last), first
    return (arc[stretch[0] + 1], first), last


def turning_point(disc, arc, stretch, members, feet):
    """Round the outside of members, those of a STRETCH, the last vertex with an EDGE to the foot that comes first."""
    dart, end = outer_dart(disc, arc, stretch)
    noted = [(a, b) for a, b in corners_round(disc[0], members, dart, end) if a not in arc and b in feet]
    return [a for a, b in noted if b == noted[0][1]][-1]


def bend(disc, arc, back, path, t, stretch):
    """The vertex z of a STRETCH through which the arc has to be led; None if there is none."""
    members = stretch_vertices(disc, arc, path, stretch)
    feet = standing(disc, arc, path, stretch)
    if len(feet) == 2:
        return turning_point(disc, arc, stretch, members, feet)
    if len(feet) == 1 and back[-1] in members:
        return back[back.index(t) + 1]
    return None


def through_block(disc, gone, link, corner, spared):
    """A WAY through the BLOCK of link, by a RIM EDGE at corner if this is an inner vertex of the way."""
    block, first, last = link
    if len(block) == 2:
        return first, last
    names, own = block_disc(disc, gone, block)
    places = places_of(names)
    at = places[corner] if corner in places and corner not in (first, last) else places[first]
    edge = edge_between(at, next_on_rim(own, at))
    line = way_sparing(own, places[first], edge, places[last], places[spared])
    return tuple([names[a] for a in line])


def through_blocks(disc, gone, links, corner, lot):
    """A PATH through the BLOCKS of links; lot tells for each of them what its WAY spares."""
    line = (links[0][1],)
    for link, spared in zip(links, lot):
        line = line + through_block(disc, gone, link, corner, spared)[1:]
    return line


def spared_on_chain(links, t, word):
    """For each BLOCK of the chain from y to u the vertex that it spares."""
    if word in ("u", "y"):
        return [link[2] if word == "u" else link[1] for link in links]
    found = []
    for block, first, last in links:
        if t in found:
            found.append(first)
        else:
            found.append(t if t in block else last)
    return found


def path_on(disc, own, u, t, word):
    """The PATH of a WAY from y on, own being its SIDE and t where back leaves the chain."""
    arc, y = own[0], own[2]
    links = chain(disc, arc, y, u)
    if not links:
        return (y,)
    return through_blocks(disc, tuple(sorted(arc)), links, t, spared_on_chain(links, t, word))


def line_through(disc, own, path, t, word, stretch):
    """A PATH through a STRETCH, from its first to its last place."""
    arc, back = own[0], own[3]
    graph = graph_in(disc[0])
    members = stretch_vertices(disc, arc, path, stretch)
    gone = others_than(disc, members)
    ends = (arc[stretch[0]], arc[stretch[1]])
    start, end = ends if word == "x" else ends[::-1]
    links = block_chain(graph, gone, start, end)
    lot = [link[2] for link in links]
    z = bend(disc, arc, back, path, t, stretch)
    corner = start if z is None else hung_at(graph, members, links, z)
    if z is not None and corner != z and len(standing(disc, arc, path, stretch)) == 1 and word in ("u", "y"):
        lot = [corner if corner in link[0] else link[2] for link in links]
    line = through_blocks(disc, gone, links, corner, lot)
    return line if line[0] == ends[0] else line[::-1]


def way_along(disc, own, u, word, towards):
    """A WAY with the SIDE own that spares what word tells; its arc is led anew towards v, or towards x."""
    arc, y, back = own[0], own[2], own[3]
    t = chain_exit(disc, arc, back, chain(disc, arc, y, u))
    path = path_on(disc, own, u, t, word)
    led = arc
    # From the last STRETCH on, so that the places ahead of it stay what they are.
    for stretch in stretches(disc, arc, path)[::-1]:
        led = led_anew(led, stretch, line_through(disc, own, path, t, towards, stretch))
    return led + path


def word_for(own, v, u, spared):
    """Which of u, v, y and x, looked up in this order, the vertex to be spared is."""
    if spared == u:
        return "u"
    if spared == v:
        return "v"
    return "y" if spared == own[2] else "x"


def way_sparing(disc, v, edge, u, spared):
    """A WAY; in a SOLID DISC it has OWN FEET that spare spared, one of u, v and the ends of edge."""
    own = all_sides(disc, v, edge, u)[0]
    word = word_for(own, v, u, spared)
    return way_along(disc, own, u, word, word)


def way(disc, v, edge, u):
    """A WAY."""
    check_ask(disc, v, edge, u)
    return way_sparing(disc, v, edge, u, u)


def way_by_each(disc, v, u):
    """A WAY through each RIM EDGE, from that of v and the next vertex on, in the order of the rim."""
    check_on(disc[1], (v,))
    check_goal(disc, v, u)
    at = disc[1].index(v)
    row = disc[1][at:] + disc[1][:at]
    return tuple([way(disc, v, edge_between(a, b), u) for a, b in darts_of(row)])


def way_to_each(disc, v, edge):
    """A WAY to each vertex but v."""
    check_start(disc, v, edge)
    return tuple([way(disc, v, edge, u) for u in range(len(disc[0])) if u != v])


def way_in_face(turns, face, v, edge, u):
    """A WAY of the DISC of these TURNS and of this FACE."""
    return way(disc_of(turns, face), v, edge, u)


def way_round(disc, v, edge):
    """A THREE-FOOTED CYCLE that uses edge and the RIM EDGE of v and the next vertex."""
    check_start(disc, v, edge)
    after = next_on_rim(disc, v)
    if edge == edge_between(v, after):
        raise CanNot()
    return way(disc, after, edge, v)
