"""BOOKS: drawings with a CYCLE over all vertices, told by its chords on two pages."""

from itertools import combinations

from threefeet.discs import places_of
from threefeet.drawings import is_pair
from threefeet.errors import CanNot
from threefeet.graphs import edges_of, is_cycle, is_number, is_tuple_of
from threefeet.sides import lines_used
from threefeet.turns import begun, graph_in
from threefeet.walks import begun_at, edge_between


def is_page(size, thing):
    """Whether thing is a set of pairs that may stand on one page of a BOOK, but that some may cross."""
    if not isinstance(thing, tuple):
        return False
    for pair in thing:
        if not is_pair(pair) or pair[0] + 2 > pair[1] or pair[1] >= size or pair == (0, size - 1):
            return False
    return tuple(sorted(set(thing))) == thing


def are_pages(size, upper, lower):
    """Whether these make a BOOK, but that some pairs of one page may cross."""
    if not is_number(size) or size < 3 or not is_page(size, upper) or not is_page(size, lower):
        return False
    return len(set(upper + lower)) == len(upper) + len(lower)


def do_cross(one, other):
    """Whether these two pairs, the first with the lesser first number, cross."""
    return one[0] < other[0] < one[1] < other[1]


def crossing(pairs):
    """The least pair of two of these pairs that cross; None if no two cross."""
    for one, other in combinations(list(pairs), 2):
        if do_cross(one, other):
            return one, other
    return None


def is_book(thing):
    """Whether thing is a BOOK."""
    if not is_tuple_of(thing, 3):
        return False
    size, upper, lower = thing
    return are_pages(size, upper, lower) and crossing(upper) is None and crossing(lower) is None


def mates(pairs, i):
    """The positions that are with i in one of these pairs."""
    return [k if j == i else j for j, k in pairs if i in (j, k)]


def book_turns(book):
    """The TURNS of the GRAPH of book: upper left of its CYCLE, lower right."""
    size, upper, lower = book
    rows = []
    for i in range(size):
        left = sorted([((i - j) % size, j) for j in mates(upper, i)])
        right = sorted([((i - j) % size, j) for j in mates(lower, i)], reverse=True)
        row = [(i - 1) % size] + [j for _, j in left] + [(i + 1) % size] + [j for _, j in right]
        rows.append(tuple(row))
    return begun(rows)


def is_left_of(turns, cycle, k, b):
    """Whether the EDGE to b leads from cycle[k] to the left of cycle."""
    row = begun_at(turns[cycle[k]], cycle[k - 1])
    return row.index(b) < row.index(cycle[(k + 1) % len(cycle)])


def book_of(turns, cycle):
    """The pair of cycle and of the BOOK of turns in which position k stands for cycle[k]."""
    graph = graph_in(turns)
    if not is_cycle(graph, cycle) or len(cycle) != len(turns):
        raise CanNot()
    used = lines_used(cycle)
    places = places_of(cycle)
    upper = []
    lower = []
    for a, b in edges_of(graph):
        if (a, b) not in used:
            page = upper if is_left_of(turns, cycle, places[a], b) else lower
            page.append(edge_between(places[a], places[b]))
    return cycle, (len(cycle), tuple(sorted(upper)), tuple(sorted(lower)))


def row_of(size, pairs):
    """For each position how many of these pairs have it as their second, and how many as their first number."""
    closing = [0] * size
    opening = [0] * size
    for i, j in pairs:
        opening[i] += 1
        closing[j] += 1
    return tuple([(closing[k], opening[k]) for k in range(size)])


def rows_of(book):
    """The pair of the rows of upper and of lower."""
    size, upper, lower = book
    return row_of(size, upper), row_of(size, lower)


def page_of(row):
    """The pairs that do not cross and have this row; None if there are none."""
    still = []
    found = []
    for k, (closing, opening) in enumerate(row):
        if closing > len(still) or opening > len(row):
            return None
        for _ in range(closing):
            found.append((still.pop(), k))
        still.extend([k] * opening)
    return None if still else tuple(sorted(found))


def book_of_rows(rows):
    """The BOOK with these rows."""
    up, down = rows
    book = (len(up), page_of(up), page_of(down))
    if len(up) != len(down) or not is_book(book):
        raise CanNot()
    return book


def told_by(pairs, names):
    """The set of these pairs with names[k] in the place of each position k."""
    return tuple(sorted([edge_between(names[i], names[j]) for i, j in pairs]))


def moved_on(book):
    """The BOOK in which position 0 has become the last one."""
    size, upper, lower = book
    names = [(k - 1) % size for k in range(size)]
    return size, told_by(upper, names), told_by(lower, names)


def swapped(book):
    """upper and lower exchanged."""
    size, upper, lower = book
    return size, lower, upper


def read_back(book):
    """The same drawing read from its last position."""
    size, upper, lower = book
    names = [size - 1 - k for k in range(size)]
    return size, told_by(lower, names), told_by(upper, names)
