"""CLAIMS of seven kinds, and one judge for all their PAPERS."""

from threefeet.books import are_pages, crossing, do_cross, is_book, rows_of
from threefeet.cuts import is_between, least_cut_between, least_separator
from threefeet.discs import is_disc, is_solid
from threefeet.drawings import can_draw, draw, is_drawing, is_join_row, is_pair, join_row
from threefeet.errors import CanNot, NoPaper, TooMany
from threefeet.forbidden import forbidden, is_forbidden
from threefeet.graphs import (
    are_joined, are_unlike, are_vertices, is_graph, is_number, is_path, is_set, is_tuple_of, pieces, shortest_path,
    with_edges, without_edges
)
from threefeet.homes import is_small_cut
from threefeet.ownfeet import foot_paper, is_crowded, is_own_feet, is_own_way
from threefeet.turns import graph_in
from threefeet.two import all_ways, is_ask, spare_papers, spares
from threefeet.walks import first_fault, is_home, triples_for

PLACES = {"flat": 2, "held": 2, "apart": 5, "own": 4, "spare": 6, "home": 3, "book": 4}
MOST = {"flat": 16, "held": 12, "apart": 16, "spare": 9, "home": 16, "book": 40}


def are_apart_ends(graph, a, b):
    """Whether a and b are two vertices of graph that are no neighbours."""
    return are_vertices((a, b), len(graph)) and a != b and not are_joined(graph, a, b)


def is_set_within(thing, vertices):
    """Whether thing is a set of some of these vertices."""
    return is_set(thing, max(vertices) + 1) and all([a in vertices for a in thing])


def is_spare_claim(disc, v, edge, u, spared):
    """Whether these are what a CLAIM "spare" holds."""
    return is_disc(disc) and is_solid(disc) and is_ask(disc, v, edge, u) and is_set_within(spared, (u, v) + edge)


def is_graph_claim(word, graph, rest):
    """Whether rest is what a CLAIM with this word holds behind this GRAPH."""
    if word == "flat":
        return len(pieces(graph, ())) == 1
    if word == "held":
        return len(graph) > 3
    if word == "apart":
        a, b, many = rest
        return are_apart_ends(graph, a, b) and is_number(many) and 1 <= many <= 4
    if word == "own":
        line, spared = rest
        return is_path(graph, line) and is_set_within(spared, line)
    # Without vertices a GRAPH has no such tuple but ().
    return are_vertices(rest[0], len(graph)) and rest[0] != ()


def is_claim(thing):
    """Whether thing is a CLAIM."""
    if not isinstance(thing, tuple) or not thing or not isinstance(thing[0], str) or thing[0] not in PLACES:
        return False
    word, rest = thing[0], thing[1:]
    if len(thing) != PLACES[word]:
        return False
    if word == "spare":
        return is_spare_claim(*rest)
    if word == "book":
        return are_pages(*rest)
    return is_graph(rest[0]) and is_graph_claim(word, rest[0], rest[1:])


def check_size(claim):
    """Raise TooMany if this CLAIM is too great to be asked."""
    word, own = claim[0], claim[1]
    size = own
    if word != "book":
        size = len(own[0]) if word == "spare" else len(own)
    if word in MOST and size > MOST[word]:
        raise TooMany()


def split_rows(graph):
    """Where one goes on from each place, if one comes to a vertex a at the place 2 a and leaves it at 2 a + 1."""
    rows = []
    for a, row in enumerate(graph):
        rows.append([2 * a + 1])
        rows.append([2 * b for b in row])
    return rows


def turn_round(rows, line):
    """Let one go along line in the other direction only."""
    for x, y in zip(line, line[1:]):
        rows[x].remove(y)
        rows[y].append(x)


def path_back(rows, a, x):
    """The PATH from a to the one before x, told by the steps that were turned round."""
    path = [x // 2]
    while path[-1] != a:
        # But for one step all that lead on from here are as they were in the beginning.
        path.append(rows[2 * path[-1]][0] // 2)
    return tuple(path[::-1])


def lines_apart(graph, a, b, many):
    """So many PATHS from a to b that share no inner vertex; None if there are none."""
    rows = split_rows(graph)
    for _ in range(many):
        line = shortest_path(rows, 2 * a + 1, 2 * b, ())
        if line is None:
            return None
        turn_round(rows, line)
    return tuple(sorted([path_back(rows, a, x) + (b,) for x in rows[2 * b] if x != 2 * b + 1]))


def paths_apart(graph, a, b, many):
    """So many PATHS from a to b, which are no neighbours, that share no inner vertex."""
    if not are_apart_ends(graph, a, b):
        raise CanNot()
    lines = lines_apart(graph, a, b, many)
    if lines is None:
        raise NoPaper()
    return lines


def is_so(claim):
    """Whether this CLAIM is so."""
    check_size(claim)
    word, rest = claim[0], claim[1:]
    if word == "flat":
        return can_draw(*rest)
    if word == "held":
        return least_separator(rest[0], 2) is None
    if word == "apart":
        return lines_apart(*rest) is not None
    if word == "own":
        return foot_paper(*rest)[0] == "own"
    if word == "spare":
        return spares(*rest)
    if word == "home":
        return first_fault(*rest) is None
    return is_book(rest)


def apart_paper(graph, a, b, many):
    """The PAPER of a CLAIM "apart"."""
    lines = lines_apart(graph, a, b, many)
    return least_cut_between(graph, a, b) if lines is None else lines


def spare_paper(disc, v, edge, u, spared):
    """The PAPER of a CLAIM "spare"."""
    crowds = []
    for path, told in zip(all_ways(disc, v, edge, u), spare_papers(disc, v, edge, u, spared)):
        word, paper = told
        if word == "own":
            return path, paper
        crowds.append(paper)
    return tuple(crowds)


def book_paper(size, upper, lower):
    """The PAPER of a CLAIM "book"."""
    for page in (upper, lower):
        pair = crossing(page)
        if pair is not None:
            return pair
    return rows_of((size, upper, lower))


def claim_paper(claim):
    """A PAPER of this CLAIM."""
    check_size(claim)
    word, rest = claim[0], claim[1:]
    if word == "flat":
        return draw(*rest) if can_draw(*rest) else forbidden(*rest)
    if word == "held":
        cut = least_separator(rest[0], 2)
        return join_row(*rest) if cut is None else cut
    if word == "apart":
        return apart_paper(*rest)
    if word == "own":
        return foot_paper(*rest)[1]
    if word == "spare":
        return spare_paper(*rest)
    if word == "home":
        fault = first_fault(*rest)
        return triples_for(*rest) if fault is None else fault
    return book_paper(*rest)


def is_just(thing, due):
    """Whether thing is due, a tuple of tuples, numbers and strings, and each of its parts of the same kind."""
    if isinstance(due, tuple):
        return is_tuple_of(thing, len(due)) and all([is_just(own, part) for own, part in zip(thing, due)])
    if isinstance(due, str):
        return thing == due
    return is_number(thing) and thing == due


def are_lines_apart(graph, a, b, many, thing):
    """Whether thing is so many PATHS from a to b, in any order, that share no inner vertex."""
    if not is_tuple_of(thing, many):
        return False
    inner = []
    for path in thing:
        if not is_path(graph, path) or path[0] != a or path[-1] != b:
            return False
        inner.extend(path[1:-1])
    return are_unlike(inner)


def is_cut_apart(graph, a, b, many, thing):
    """Whether thing is a SEPARATOR of fewer than many vertices that parts a from b."""
    return is_set(thing, len(graph)) and len(thing) < many and is_between(graph, thing, a, b)


def are_crowds(disc, v, edge, u, spared, thing):
    """Whether thing is a tuple with a CROWD of each WAY."""
    lot = all_ways(disc, v, edge, u)
    graph = graph_in(disc[0])
    return is_tuple_of(thing, len(lot)) and all(
        [is_crowded(graph, path, spared, own) for path, own in zip(lot, thing)])


def is_crossing(upper, lower, thing):
    """Whether thing is a pair of two pairs of one page that cross."""
    if not is_tuple_of(thing, 2) or not is_pair(thing[0]) or not is_pair(thing[1]):
        return False
    one, other = thing
    for page in (upper, lower):
        if one in page and other in page and do_cross(one, other):
            return True
    return False


def is_paper_for(claim, thing):
    """Whether thing is a PAPER that this CLAIM is so."""
    word, rest = claim[0], claim[1:]
    if word == "flat":
        return is_drawing(*rest, thing)
    if word == "held":
        return is_join_row(*rest, thing)
    if word == "apart":
        return are_lines_apart(*rest, thing)
    if word == "own":
        return is_own_feet(*rest, thing)
    if word == "spare":
        return is_own_way(*rest, thing)
    if word == "home":
        return is_home(rest[0], (rest[1], thing))
    return is_book(rest) and is_just(thing, rows_of(rest))


def is_paper_against(claim, thing):
    """Whether thing is a PAPER that this CLAIM is not so."""
    word, rest = claim[0], claim[1:]
    if word == "flat":
        return is_forbidden(*rest, thing)
    if word == "held":
        return is_small_cut(*rest, thing)
    if word == "apart":
        return is_cut_apart(*rest, thing)
    if word == "own":
        return is_crowded(*rest, thing)
    if word == "spare":
        return are_crowds(*rest, thing)
    if word == "home":
        fault = first_fault(*rest)
        return fault is not None and is_just(thing, fault)
    return is_crossing(rest[1], rest[2], thing)


def shows(claim, thing):
    """True if thing is a PAPER that this CLAIM is so, False if that it is not so, None if it is none."""
    check_size(claim)
    if is_paper_for(claim, thing):
        return True
    return False if is_paper_against(claim, thing) else None


def is_claim_paper(claim, thing):
    """Whether thing is a PAPER of this CLAIM, of either kind."""
    return shows(claim, thing) is not None


def not_so(claims):
    """The set of the places of the CLAIMS that are not so."""
    return tuple([k for k, claim in enumerate(claims) if not is_so(claim)])


def words_so(claims):
    """The set of the words of the CLAIMS, but those of one that is not so."""
    told = {}
    for claim in claims:
        so = is_so(claim)
        told[claim[0]] = so and told.get(claim[0], True)
    return tuple(sorted([word for word, so in told.items() if so]))


def has_both(claim, pair):
    """Whether this CLAIM has a GRAPH, and this both vertices of pair."""
    return claim[0] not in ("spare", "book") and pair[1] < len(claim[1])


def turned_claim(claim, pair):
    """The tuple with the EDGE pair put into the GRAPH of claim, or taken out if it is there."""
    graph = claim[1]
    if are_joined(graph, pair[0], pair[1]):
        new = without_edges(graph, (pair,))
    else:
        new = with_edges(graph, (pair,))
    return claim[:1] + (new,) + claim[2:]


def turned_by(claims, pair):
    """The set of the places of the CLAIMS of which just one is so, as it is or with pair put in or taken out."""
    found = []
    for k, claim in enumerate(claims):
        if has_both(claim, pair):
            before = is_so(claim)
            new = turned_claim(claim, pair)
            if is_claim(new) and is_so(new) != before:
                found.append(k)
    return tuple(found)
