"""Point [24]: books.py."""

from itertools import combinations
from random import Random

from tests import made, slow
from tests.doors import DoorCase
from threefeet.books import (
    book_of, book_of_rows, book_turns, crossing, is_book, moved_on, read_back, rows_of, swapped)

PAGE = (6, ((0, 2), (0, 3)), ((1, 5),))


def random_books(many, most, seed):
    dice = Random(seed)
    return [made.random_book(dice, dice.randint(3, most), dice.choice((0, 0.2, 0.6, 1))) for _ in range(many)]


def great_books():
    dice = Random(0)
    fan = tuple((0, k) for k in range(2, 39))
    other = tuple((k, 39) for k in range(1, 38))
    nest = tuple((k, 39 - k) for k in range(1, 19))
    return [made.random_book(dice, 40), made.random_book(dice, 40, 0.1), (40, fan, other), (40, (), fan), (40, (), ()), (40, nest, ())]


def mates_round(size, page, i, step):
    """The positions that are with i in a pair of page, going round from i by step."""
    row = [(i + step * k) % size for k in range(1, size)]
    return [j for j in row if (min(i, j), max(i, j)) in page]


def turns_by_hand(book):
    """Round i: from i - 1 over the upper page, with what is next behind i first, to i + 1, and back over the lower page."""
    size, upper, lower = book
    rows = []
    for i in range(size):
        row = [(i - 1) % size, *mates_round(size, upper, i, -1), (i + 1) % size, *mates_round(size, lower, i, 1)]
        rows.append(slow.from_least(tuple(row)))
    return tuple(rows)


def told_by(turns, cycle):
    """The turns with each vertex told by its place in cycle."""
    place = {a: k for k, a in enumerate(cycle)}
    return slow.begun(tuple(tuple(place[b] for b in turns[a]) for a in cycle))


def upper_of(turns, cycle):
    """The edges left of a cycle over all, by going round each vertex from the one before it to the next one."""
    place = {a: k for k, a in enumerate(cycle)}
    found = set()
    for k, a in enumerate(cycle):
        row = turns[a]
        at = row.index(cycle[k - 1]) + 1
        while row[at % len(row)] != cycle[(k + 1) % len(cycle)]:
            found.add(tuple(sorted((k, place[row[at % len(row)]]))))
            at += 1
    return tuple(sorted(found))


class Books(DoorCase):

    def test_is_book(self):
        for book in random_books(120, 12, 1) + great_books():
            self.assertIs(is_book(book), True)
        for size in (3, 4, 5):
            pairs = [(i, j) for i in range(size) for j in range(i + 1, size + 1)]
            for many in range(3):
                for page in combinations(pairs, many):
                    for other in combinations(pairs, 1):
                        for thing in ((size, page, other), (size, other, page), (size, page, ())):
                            self.assertIs(is_book(thing), slow.is_book(thing), thing)

    def test_wrong_things(self):
        seen = set()
        for book in random_books(60, 10, 2):
            seen |= self.judged(is_book, slow.is_book, made.wrong(book, 150) + [book, list(book), book[:2], book + ((),)])
        self.assertEqual(seen, {True, False})

    def test_things_that_lack_one_condition(self):
        for thing, due in ((PAGE, True), ((6, ((0, 2), (0, 3)), [(1, 5)]), False), ((6, ((0, 2), [0, 3]), ()), False),
                           ((6, ((0, 3), (0, 2)), ()), False), ((6, ((0, 2), (0, 2)), ()), False), ((6, ((2, 0),), ()), False),
                           ((6, ((0, 2),), ((0, 2),)), False), ((6, ((0, 1),), ()), False), ((6, ((0, 0),), ()), False),
                           ((6, ((0, 5),), ()), False), ((6, ((0, 4),), ()), True), ((6, ((1, 5),), ()), True), ((6, ((1, 6),), ()), False),
                           ((6, ((0, 2), (1, 3)), ()), False), ((6, (), ((0, 2), (1, 3))), False), ((6, ((0, 2),), ((1, 3),)), True),
                           ((6, ((-1, 3),), ()), False), ((6, ((False, 3),), ()), False), ((6, ((0, 3, 4),), ()), False),
                           ((6, ((0,),), ()), False), ((6, (0, 3), ()), False), ((6, ("03",), ()), False), ((6, (None,), ()), False),
                           ((2, (), ()), False), ((0, (), ()), False), ((3, (), ()), True), ((True, (), ()), False), ((-3, (), ()), False),
                           (("6", (), ()), False), ((3, ((0, 2),), ()), False), ((4, ((0, 2),), ((1, 3),)), True), (None, False),
                           ((6, None, ()), False), ((6, (), None), False), ((), False), ((6, ((0, 2), (2, 4), (0, 4)), ()), False),
                           ((6, ((0, 2), (0, 4), (2, 4)), ()), True), ((6, "", ()), False)):
            self.assertIs(is_book(thing), due, thing)

    def test_of_whatever_size(self):
        for size in (41, 100, 10 ** 30):
            self.assertIs(is_book((size, (), ())), True)
            self.assertIs(is_book((size, ((0, size - 2), (1, 3)), ((2, size - 1),))), True)
            self.assertIs(is_book((size, ((0, size - 1),), ())), False)
            self.assertIs(is_book((size, ((0, size - 2), (1, size - 1)), ())), False)
        self.assertIs(is_book((90, tuple((k, k + 2) for k in range(0, 88, 2)), tuple((0, k) for k in range(2, 89)))), False)
        self.assertIs(is_book((90, tuple((k, k + 2) for k in range(2, 88, 2)), tuple((0, k) for k in range(2, 89)))), True)


class Crossing(DoorCase):

    def test_many_sets(self):
        seen = set()
        dice = Random(3)
        for _ in range(400):
            most = dice.choice((5, 9, 40))
            pairs = tuple(sorted({tuple(sorted(dice.sample(range(most), 2))) for _ in range(dice.randint(0, 9))}))
            due = [(one, other) for one in pairs for other in pairs if one[0] < other[0] and slow.do_cross(one, other)]
            self.same(crossing(pairs), min(due) if due else None)
            seen.add(min(len(due), 2))
        self.assertEqual(seen, {0, 1, 2})

    def test_edges(self):
        self.same(crossing(()), None)
        self.same(crossing(((0, 9),)), None)
        self.same(crossing(((0, 3), (0, 5), (3, 5))), None)
        self.same(crossing(((0, 3), (1, 3), (2, 3))), None)
        self.same(crossing(((0, 1), (0, 3), (1, 2), (2, 4))), ((0, 3), (2, 4)))
        self.same(crossing(((0, 4), (1, 5), (2, 6))), ((0, 4), (1, 5)))
        self.same(crossing(((0, 10 ** 20), (7, 10 ** 21))), ((0, 10 ** 20), (7, 10 ** 21)))


class Drawn(DoorCase):

    def test_book_turns(self):
        for book in random_books(150, 12, 4) + great_books():
            got = book_turns(book)
            self.same(got, turns_by_hand(book))
            self.assertTrue(slow.is_plane(got))
            size, upper, lower = book
            due = {(k, k + 1) for k in range(size - 1)} | {(0, size - 1), *upper, *lower}
            self.assertEqual(slow.edges(slow.graph_in(got)), due)
            self.assertEqual(upper_of(got, tuple(range(size))), upper)
            self.same(book_of(got, tuple(range(size))), (tuple(range(size)), book))

    def test_upper_lies_to_the_left(self):
        """Halve each pair: its new vertex lies left of the CYCLE, or right."""
        for book in random_books(40, 8, 5):
            turns = book_turns(book)
            for page, side in ((book[1], 0), (book[2], 1)):
                for a, b in page:
                    n = len(turns)
                    rows = [[n if {k, c} == {a, b} else c for c in row] for k, row in enumerate(turns)]
                    rows = tuple(tuple(row) for row in rows) + ((a, b),)
                    self.assertEqual([len(own) for own in slow.sides(rows, tuple(range(book[0])))], [1 - side, side])

    def test_moved_swapped_and_read_back(self):
        for book in random_books(120, 12, 6) + great_books():
            size = book[0]
            over = tuple(range(size))
            turns = book_turns(book)
            self.same(book_turns(swapped(book)), slow.begun(tuple(row[::-1] for row in turns)))
            for cycle, due in ((over[1:] + over[:1], moved_on(book)), (over[::-1], read_back(book))):
                self.assertTrue(slow.is_book(due))
                self.same(book_of(turns, cycle), (cycle, due))
                self.same(book_turns(due), told_by(turns, cycle))
            self.same(swapped(swapped(book)), book)
            self.same(read_back(read_back(book)), book)
            own = book
            for _ in range(size):
                own = moved_on(own)
            self.same(own, book)

    def test_book_of_any_cycle_over_all(self):
        many = 0
        for k, own in enumerate(made.plane_maps(120, 3, 8, 7) + made.maps(30, 5, 8, 7, True, True)):
            turns = made.begun_elsewhere(own.turns, k)
            for cycle in [own for own in slow.cycles(slow.graph_in(turns)) if len(own) == len(turns)][:8]:
                for row in (made.shifted(cycle, k), made.shifted(cycle[::-1], k)):
                    order, book = book_of(turns, row)
                    self.same(order, row)
                    self.assertTrue(slow.is_book(book))
                    self.same(book[1], upper_of(turns, row))
                    self.same(book_turns(book), told_by(turns, row))
                    many += 1
        self.assertGreater(many, 200)

    def test_cannot(self):
        four = made.FOUR
        for cycle in ((), (0,), (0, 1), (0, 1, 2), (0, 1, 2, 2), (0, 1, 2, 4), (0, 1, 2, 3, 0), (0, 1, 2, 3, 4), (9, 8, 7, 6)):
            self.raises("CanNot()", book_of, four, cycle)
        self.raises("CanNot()", book_of, made.ring_graph(5), (0, 2, 1, 3, 4))
        self.raises("CanNot()", book_of, ((),), (0,))
        self.raises("CanNot()", book_of, ((1,), (0,)), (0, 1))
        self.raises("CanNot()", book_of, ((1,), (0, 2), (1,)), (0, 1, 2))


def rows_by_hand(book):
    size = book[0]
    return tuple(tuple((sum(j == k for _, j in page), sum(i == k for i, _ in page)) for k in range(size)) for page in book[1:])


class Rows(DoorCase):

    def test_there_and_back(self):
        for book in random_books(200, 14, 8) + great_books():
            self.same(rows_of(book), rows_by_hand(book))
            self.same(book_of_rows(rows_of(book)), book)

    def test_a_book_is_the_only_one_with_its_rows(self):
        books = []
        for size in (3, 4, 5):
            pairs = [(i, j) for i in range(size) for j in range(i + 2, size) if (i, j) != (0, size - 1)]
            for many in range(len(pairs) + 1):
                for held in combinations(pairs, many):
                    for up in range(many + 1):
                        for upper in combinations(held, up):
                            book = (size, upper, tuple(sorted(set(held) - set(upper))))
                            if slow.is_book(book):
                                books.append(book)
        told = {rows_of(book): book for book in books}
        self.assertEqual(len(told), len(books))
        # All rows of small numbers: those of these books, and no others.
        for size in (3, 4):
            steps = [(0, 0), (0, 1), (1, 0), (1, 1)]
            lot = [tuple(steps[bits >> 2 * k & 3] for k in range(size)) for bits in range(4 ** size)]
            for up in lot[::3] + lot[:20]:
                for down in lot[::5] + lot[:8]:
                    if (up, down) in told:
                        self.same(book_of_rows((up, down)), told[(up, down)])
                    else:
                        self.raises("CanNot()", book_of_rows, (up, down))

    def test_cannot(self):
        none = ((0, 0),)
        for up, down in (((), ()), (none * 2, none * 2), (none * 3, none * 4), (none * 4, none * 3), (none * 3, ()),
                         (((0, 1), (0, 0), (1, 0)), none * 3), (((0, 1), (1, 0), (0, 0), (0, 0)), none * 4),
                         (((0, 1),) + none * 3, none * 4), (none * 3 + ((1, 0),), none * 4), (((1, 1),) + none * 2 + ((1, 1),), none * 4),
                         (((0, 2), (0, 0), (2, 0), (0, 0)), none * 4), (((0, 1), (0, 0), (1, 0), (0, 0)),) * 2,
                         (none * 4, ((0, 1), (0, 0), (0, 0), (1, 0))), (none * 4, ((0, 1), (0, 0), (2, 0), (0, 0))),
                         (((0, 10 ** 30),) + none * 39, none * 40), (none * 39 + ((10 ** 30, 0),), none * 40),
                         (((0, 10 ** 9), (0, 0), (10 ** 9, 0), (0, 0)), none * 4), (((0, 0), (1, 1), (0, 0), (1, 0)), none * 4)):
            self.raises("CanNot()", book_of_rows, (up, down))
        self.same(book_of_rows((none * 3, none * 3)), (3, (), ()))
        self.same(book_of_rows((((0, 1), (0, 0), (1, 0), (0, 0)), ((0, 0), (0, 1), (0, 0), (1, 0)))), (4, ((0, 2),), ((1, 3),)))
        self.same(book_of_rows((none * 40, none * 40)), (40, (), ()))
