"""Point [26]: judge.py."""

from itertools import combinations
from random import Random

from tests import made, slow
from tests.doors import DoorCase
from threefeet.books import rows_of
from threefeet.judge import (
    claim_paper, is_claim, is_claim_paper, is_so, not_so, paths_apart, shows, turned_by, words_so)
from threefeet.ownfeet import own_way

WORDS = ("flat", "held", "apart", "own", "spare", "home", "book")
TETRA, RING = made.complete(4), made.ring_graph(4)
SQUARE = (RING, (0, 1, 2, 3))
STAR = (((1, 6, 5), (0, 2), (1, 3, 6), (2, 4), (3, 5, 6), (0, 4), (0, 2, 4)), (0, 1, 2, 3, 4, 5))


# A judge of the test's own.

def vertices(graph, x):
    return slow.numbers(x) and all(a < len(graph) for a in x)


def is_line(graph, x):
    return slow.is_path(graph, x)


def is_spare_claim(disc, v, edge, u, spared):
    if not slow.is_disc(disc) or slow.soft(disc) or not slow.number(v) or not slow.number(u) or not slow.numbers(edge):
        return False
    if v not in disc[1] or edge not in made.rim_pairs(disc) or u >= len(disc[0]) or u == v:
        return False
    return slow.a_set(spared) and set(spared) <= {u, v, *edge}


def is_claim_slowly(x):
    if type(x) is not tuple or not x or type(x[0]) is not str or x[0] not in WORDS:
        return False
    word, rest = x[0], x[1:]
    if len(rest) != {"flat": 1, "held": 1, "apart": 4, "own": 3, "spare": 5, "home": 2, "book": 3}[word]:
        return False
    if word == "book":
        return slow.are_pages(*rest)
    if word == "spare":
        return is_spare_claim(*rest)
    graph = rest[0]
    if not slow.is_graph(graph):
        return False
    if word == "flat":
        return len(slow.pieces(graph)) == 1
    if word == "held":
        return len(graph) >= 4
    if word == "apart":
        _, a, b, many = rest
        return vertices(graph, (a, b)) and a != b and b not in graph[a] and slow.number(many) and many in (1, 2, 3, 4)
    if word == "own":
        return is_line(graph, rest[1]) and slow.a_set(rest[2]) and set(rest[2]) <= set(rest[1])
    return graph != () and vertices(graph, rest[1]) and rest[1] != ()


def are_apart(graph, a, b, many, x):
    if type(x) is not tuple or len(x) != many or not all(slow.is_path(graph, own) for own in x):
        return False
    if any((own[0], own[-1]) != (a, b) for own in x):
        return False
    return not any(set(one[1:-1]) & set(other[1:-1]) for one, other in combinations(x, 2))


def parts_them(graph, a, b, many, x):
    if not slow.a_set(x) or len(x) >= many or not vertices(graph, x) or {a, b} & set(x):
        return False
    return not any({a, b} <= set(piece) for piece in slow.pieces(graph, x))


def just(x, due):
    """Equal, and of the same kinds throughout."""
    return repr(x) == repr(due)


def is_for(claim, x):
    word, *rest = claim
    if word == "flat":
        return slow.is_plane(x) and slow.graph_in(x) == rest[0]
    if word == "held":
        return slow.is_join_row(rest[0], x)
    if word == "apart":
        return are_apart(*rest, x)
    if word == "own":
        return slow.is_own_feet(*rest, x)
    if word == "spare":
        return slow.is_own_way(*rest, x)
    if word == "home":
        return slow.is_home(rest[0], (rest[1], x))
    rows = tuple(tuple((sum(j == k for _, j in page), sum(i == k for i, _ in page)) for k in range(rest[0])) for page in rest[1:])
    return slow.is_book(tuple(rest)) and just(x, rows)


def is_against(claim, x):
    word, *rest = claim
    if word == "flat":
        return slow.is_forbidden(rest[0], x)
    if word == "held":
        return slow.a_set(x) and len(x) < 3 and vertices(rest[0], x) and len(slow.pieces(rest[0], x)) > 1
    if word == "apart":
        return parts_them(*rest, x)
    if word == "own":
        return slow.is_crowd(*rest, x)
    if word == "spare":
        lot = slow.all_ways(*rest[:4])
        if type(x) is not tuple or len(x) != len(lot):
            return False
        return all(slow.is_crowd(slow.graph_in(rest[0][0]), path, rest[4], own) for path, own in zip(lot, x))
    if word == "home":
        fault = slow.first_fault(*rest)
        return fault is not None and just(x, fault)
    due = [(p, q) for page in rest[1:] for p, q in combinations(page, 2) if slow.do_cross(p, q)]
    return any(just(x, pair) for pair in due)


def shows_slowly(claim, x):
    return True if is_for(claim, x) else False if is_against(claim, x) else None


# CLAIMS of all kinds.

def random_line(graph, dice):
    """A PATH or a CYCLE."""
    line = [dice.randrange(len(graph))]
    while dice.random() < 0.8:
        fit = [b for b in graph[line[-1]] if b not in line]
        if not fit:
            break
        line.append(dice.choice(fit))
    return tuple(line)


def some_of(dice, row, most):
    row = sorted(set(row))
    return tuple(sorted(dice.sample(row, min(len(row), dice.randint(0, most)))))


def random_pages(dice):
    size = dice.randint(3, 8)
    pairs = [(i, j) for i in range(size) for j in range(i + 2, size) if (i, j) != (0, size - 1)]
    lot = dice.sample(pairs, min(len(pairs), dice.randint(0, 5)))
    cut = dice.randint(0, len(lot))
    return size, tuple(sorted(lot[:cut])), tuple(sorted(lot[cut:]))


def random_claim(word, dice):
    """A CLAIM with this word."""
    if word == "book":
        return (word, *(random_pages(dice) if dice.random() < 0.6 else made.random_book(dice, dice.randint(3, 9), 0.5)))
    if word == "spare":
        disc = made.solid_discs(1, 3, 7, dice.random())[0] if dice.random() < 0.7 else STAR
        v, edge, u = dice.choice(made.asks(disc))
        return word, disc, v, edge, u, some_of(dice, (u, v, *edge), 3)
    while True:
        graph = made.random_graph(dice.random(), dice.randint(1, 8), dice.choice((0.3, 0.5, 0.8)))
        if dice.random() < 0.4:
            graph = slow.graph_in(made.stacked(dice, dice.randint(4, 8)))
        elif word == "flat":
            graph = made.random_graph(dice.random(), dice.randint(5, 8), 0.8)
        claim = claim_about(word, graph, dice)
        if is_claim_slowly(claim):
            return claim


def claim_about(word, graph, dice):
    n = len(graph)
    if word in ("flat", "held"):
        return word, graph
    if word == "apart":
        return word, graph, dice.randrange(n), dice.randrange(n), dice.randint(1, 4)
    if word == "own":
        line = random_line(graph, dice)
        return word, graph, line, some_of(dice, line, 2)
    if dice.random() < 0.2 or n < 2 or not all(graph):
        return word, graph, tuple(dice.randrange(n) for _ in range(dice.randint(1, n + 2)))
    return word, graph, made.grown_walk(graph, dice) if len(slow.pieces(graph)) == 1 else (0, graph[0][0])


def random_claims(many, seed, words=WORDS):
    dice = Random(seed)
    return [random_claim(words[k % len(words)], dice) for k in range(many)]


class Claims(DoorCase):

    def test_papers_of_both_kinds(self):
        """A judge of the test's own takes each PAPER, as one of just one kind; what is so has the one, else the other."""
        seen = set()
        for claim in random_claims(560, 1):
            self.assertIs(is_claim(claim), True, claim)
            so = is_so(claim)
            got = claim_paper(claim)
            self.assertIs(shows_slowly(claim, got), so, (claim, got))
            self.assertFalse(is_for(claim, got) and is_against(claim, got))
            self.assertIs(shows(claim, got), so)
            self.assertIs(is_claim_paper(claim, got), True)
            seen.add((claim[0], so))
        self.assertEqual(seen, {(word, so) for word in WORDS for so in (True, False)})

    def test_small_graphs(self):
        """All graphs of up to four vertices: what is so, by trying."""
        for graph in made.small_graphs(4):
            if len(slow.pieces(graph)) == 1:
                self.assertIs(is_so(("flat", graph)), True)
            if len(graph) > 3:
                self.assertIs(is_so(("held", graph)), slow.firm(graph))
            for a in range(len(graph)):
                for b in range(len(graph)):
                    if b != a and b not in graph[a]:
                        lot = slow.all_paths(graph, a, b)
                        for many in range(1, 5):
                            due = any(are_apart(graph, a, b, many, own) for own in combinations(lot, many))
                            self.assertIs(is_so(("apart", graph, a, b, many)), due)

    def test_papers_with_one_thing_changed(self):
        seen = set()
        for claim in random_claims(140, 2):
            own = claim_paper(claim)
            things = made.wrong(own, 60) + [own]
            for thing in things:
                due = shows_slowly(claim, thing)
                before = repr(thing)
                self.assertIs(shows(claim, thing), due, (claim, thing))
                self.assertIs(is_claim_paper(claim, thing), due is not None)
                self.assertEqual(repr(thing), before)
                seen.add((claim[0], due))
        self.assertLessEqual({(word, due) for word in WORDS for due in (True, False, None)}, seen)

    def test_papers_of_one_claim_shown_for_another(self):
        lot = random_claims(42, 3)
        papers = [claim_paper(claim) for claim in lot]
        for claim in lot:
            for own in papers:
                self.assertIs(shows(claim, own), shows_slowly(claim, own))

    def test_paths_in_any_order(self):
        for graph in [slow.graph_in(made.stacked(Random(k), 8)) for k in range(6)] + [RING]:
            for a, b in combinations(range(len(graph)), 2):
                if b not in graph[a]:
                    many = 4 if len(graph) > 4 and is_so(("apart", graph, a, b, 4)) else 2
                    own = paths_apart(graph, a, b, many)
                    for lot in (own[::-1], own[1:] + own[:1]):
                        self.assertIs(shows(("apart", graph, a, b, many), lot), True)
                    self.assertIs(shows(("apart", graph, a, b, many), own[1:]), None)
                    self.assertIs(shows(("apart", graph, b, a, many), own), None)
                    self.assertIs(shows(("apart", graph, b, a, many), tuple(row[::-1] for row in own)), True)
                    self.assertIs(shows(("apart", graph, a, b, many), own[:1] * many), None)


class Wrong(DoorCase):

    def test_is_claim_of_changed_claims(self):
        seen = set()
        for claim in random_claims(140, 4):
            things = made.wrong(claim, 60) + [claim, list(claim), claim + ((),), claim[1:]]
            seen |= self.judged(is_claim, is_claim_slowly, things)
        self.assertEqual(seen, {True, False})

    def test_claims_that_lack_one_condition(self):
        two = ((1,), (0,), ())
        for thing, due in ((("flat", RING), True), (("flat", two), False), (("flat", ()), False), (("flat", ((),)), True),
                           (("Flat", RING), False), (("flat",), False), (("flat", RING, ()), False), (["flat", RING], False),
                           (("flat", ((1,), ())), False), (("flat", ((1,), (0,), [])), False), (("flat", None), False),
                           ((("flat",), RING), False), ((["flat"], RING), False), ((None, RING), False), ((True, RING), False),
                           (("held", RING), True), (("held", made.complete(3)), False), (("held", ((),) * 4), True),
                           (("apart", RING, 0, 2, 1), True), (("apart", RING, 2, 0, 4), True), (("apart", RING, 0, 2, 5), False),
                           (("apart", RING, 0, 2, 0), False), (("apart", RING, 0, 2, True), False), (("apart", RING, False, 2, 1), False),
                           (("apart", RING, 0, 1, 1), False), (("apart", RING, 0, 0, 1), False), (("apart", RING, 0, 4, 1), False),
                           (("apart", RING, -1, 1, 1), False), (("apart", RING, 0, 2, -1), False), (("apart", RING, 0, "2", 1), False),
                           (("apart", two, 0, 2, 4), True), (("apart", RING, 0, 2), False), (("apart", RING, [0], 2, 1), False),
                           (("own", RING, (0, 1), (0,)), True), (("own", RING, (0, 1, 2, 3), ()), True), (("own", RING, (), ()), False),
                           (("own", RING, (0, 2), ()), False), (("own", RING, (0, 1), (2,)), False), (("own", RING, (0, 1), (1, 0)), False),
                           (("own", RING, (0, 1), (0, 0)), False), (("own", RING, [0, 1], ()), False), (("own", RING, (0, 1), [0]), False),
                           (("own", RING, (0, True), ()), False), (("own", RING, (0, 1), (True,)), False), (("own", RING, (0, 1, 0), ()), False),
                           (("own", RING, (0, 1), None), False), (("own", ((),), (0,), (0,)), True), (("own", (), (), ()), False),
                           (("spare", SQUARE, 0, (0, 1), 1, ()), True), (("spare", SQUARE, 0, (1, 0), 1, ()), False),
                           (("spare", SQUARE, 0, (0, 2), 1, ()), False), (("spare", SQUARE, 0, (0, 1), 0, ()), False),
                           (("spare", SQUARE, 4, (0, 1), 1, ()), False), (("spare", SQUARE, 0, (0, 1), 4, ()), False),
                           (("spare", SQUARE, 0, (0, 1), 2, (0, 1, 2)), True), (("spare", SQUARE, 0, (0, 1), 2, (3,)), False),
                           (("spare", SQUARE, 0, (0, 1), 2, (2, 1)), False), (("spare", SQUARE, False, (0, 1), 2, ()), False),
                           (("spare", SQUARE, 0, (0, True), 2, ()), False), (("spare", SQUARE, 0, [0, 1], 2, ()), False),
                           (("spare", list(SQUARE), 0, (0, 1), 2, ()), False), (("spare", (RING, (0, 1, 2)), 0, (0, 1), 2, ()), False),
                           (("spare", RING, 0, (0, 1), 2, ()), False), (("spare", SQUARE, 0, (0, 1), 2, None), False),
                           (("spare", (((1, 4, 3), (0, 2), (1, 3, 4), (0, 2), (0, 2)), (0, 1, 2, 3)), 0, (0, 1), 2, ()), False),
                           (("spare", STAR, 0, (2, 3), 6, (0, 2, 3, 6)), True), (("spare", STAR, 6, (2, 3), 0, ()), False),
                           (("home", RING, (0, 1, 2, 3)), True), (("home", RING, ()), False), (("home", (), ()), False),
                           (("home", (), (0,)), False), (("home", RING, (0, 2)), True), (("home", RING, (0, 0, 0)), True),
                           (("home", RING, (0, 4)), False), (("home", RING, [0, 1]), False), (("home", RING, (0, True)), False),
                           (("home", ((),), (0,)), True), (("home", two, (2,)), True), (("home", RING, (0, -1)), False),
                           (("book", 4, ((0, 2),), ((1, 3),)), True), (("book", 4, ((0, 2), (1, 3)), ()), True),
                           (("book", 4, ((0, 2),), ((0, 2),)), False), (("book", 4, ((0, 3),), ()), False), (("book", 2, (), ()), False),
                           (("book", 4, ((1, 3), (0, 2)), ()), False), (("book", 4, ((0, 2), (0, 2)), ()), False),
                           (("book", 4, [(0, 2)], ()), False), (("book", 4, ([0, 2],), ()), False), (("book", 4, ((False, 2),), ()), False),
                           (("book", 10 ** 20, ((0, 2),), ()), True), (("book", True, (), ()), False), (("book", 4, ((1, 4),), ()), False),
                           (("book", (4, (), ())), False), ((), False), (None, False), ("flat", False), (("main", RING), False)):
            self.assertIs(is_claim_slowly(thing), due, thing)
            self.assertIs(is_claim(thing), due, thing)

    def test_papers_that_lack_one_condition(self):
        """Things of both kinds."""
        wheel = slow.graph_in(made.starred(RING, (0, 1, 2, 3), (0, 1, 2, 3)))
        self.check(("held", wheel), True, ((2, 3),), (((0, 1),), None, (), [(2, 3)], ((3, 2),), ((2, 3), (0, 1)), ([2, 3],)))
        self.assertIs(slow.is_join_row(wheel, ((0, 1),)), True)
        self.check(("held", RING), False, (0, 2), ((2, 0), [0, 2], (0, 1), (0, 2, 3), (), (0,), (0, True), (0, 9), None, ((0, 2),)))
        self.check(("apart", RING, 0, 2, 3), False, (1, 3), ((3, 1), (1,), (0, 1, 3), (1, 2, 3), [1, 3], (True, 3), (1, 3, 4)))
        self.check(("apart", RING, 0, 2, 1), True, ((0, 1, 2),), (((0, 2),), ((2, 1, 0),), ((0, 1),), ([0, 1, 2],), [(0, 1, 2)],
                                                              ((0, 1, 2), (0, 3, 2)), ((False, 1, 2),), (0, 1, 2), ()))
        # As many vertices as PATHS part nothing off: fewer must.
        self.check(("apart", RING, 0, 2, 2), True, ((0, 1, 2), (0, 3, 2)), ((1, 3), (1,), (), ((0, 1, 2),), ((0, 1, 2), (0, 1, 2))))
        self.check(("own", TETRA, (0, 1), (0, 1)), False, ((2, 3),), (((3, 2),), ((2,),), (), [(2, 3)], ([2, 3],), ((2, 3), (2, 3)), (1,)))
        self.check(("own", TETRA, (0, 1), (0,)), True, (1,), ((0,), (True,), [1], (), (1, 1), (2,), ((2, 3),)))
        ask = ("spare", SQUARE, 0, (0, 1), 1)
        self.check(ask + ((0,),), True, ((0, 1), (1,)), (((0, 1), (0,)), ((0, 1), ()), ((0, 3, 2, 1), ()), [(0, 1), (1,)], ((0, 1),),
                                                   ((0, 1), (True,)), ((False, 1), (1,)), (((2, 3),),)))
        self.check(ask + ((0, 1),), False, (((2, 3),),), ((((3, 2),),), ((2, 3),), (((2, 3),),) * 2, ([(2, 3)],), (), ((),), [((2, 3),)],
                                                       ((0, 1), (1,)), ((0, 1), ())))
        self.check(("home", TETRA, (0, 1, 2)), False, ("missing", 3), (("missing", 2), ("missing", 3, 3), ["missing", 3], ("often", 3),
                                                                 ("missing", "3"), (3, "missing"), (), None, ("missing", None)))
        self.check(("home", TETRA, (0, 2, 3)), False, ("missing", 1), (("missing", True), ("missing", (1,)), (("missing",), 1)))
        self.check(("home", TETRA, (0, 1, 2, 3)), True, (), (None, [], ((),), ("", 0), ((0, 1, 2),), ("triple", 0)))
        page = ("book", 4, ((0, 2),), ((1, 3),))
        rows = (((0, 1), (0, 0), (1, 0), (0, 0)), ((0, 0), (0, 1), (0, 0), (1, 0)))
        self.check(page, True, rows, (rows[::-1], list(rows), (rows[0], list(rows[1])), rows[:1], rows + ((),), (rows[0], ((0, 0),) * 4),
                                  (((False, 1),) + rows[0][1:], rows[1]), (((0, True),) + rows[0][1:], rows[1]), ((0, 2), (1, 3)), None))
        both = ("book", 4, ((0, 2), (1, 3)), ())
        self.check(both, False, ((0, 2), (1, 3)), (((1, 3), (0, 2)), [(0, 2), (1, 3)], ((0, 2), [1, 3]), ((False, 2), (1, 3)), ((0, 2),),
                                               ((0, 2), (1, 3), (1, 3)), ((0, 2), (0, 2)), ((0, 2), (1, True)),
                                               (((0, 1), (0, 1), (1, 0), (1, 0)), ((0, 0),) * 4)))
        apart = ("book", 6, ((0, 2), (1, 3)), ((2, 4), (3, 5)))
        for pair, due in ((((0, 2), (1, 3)), False), (((2, 4), (3, 5)), False), (((1, 3), (2, 4)), None), (((0, 2), (3, 5)), None)):
            self.assertIs(shows(apart, pair), due)
        self.check(("flat", TETRA), True, made.FOUR, (TETRA, list(made.FOUR), made.FOUR[:3], made.FOUR + ((),), None))
        five = made.complete(5)
        steps = tuple(sorted(slow.edges(five)))
        good = ("five", (0, 1, 2, 3, 4), steps)
        self.check(("flat", five), False, good, (good[:2], list(good), ("three",) + good[1:], good[:2] + (steps[::-1],), five, steps))

    def check(self, claim, due, paper, others):
        """paper shows the CLAIM so or not so; of the others each does what the slow judge tells: nothing, but for a few."""
        self.assertIs(is_claim(claim), True)
        self.assertIs(is_so(claim), due)
        self.assertIs(shows_slowly(claim, paper), due)
        self.assertIs(shows(claim, paper), due)
        for thing in others:
            self.assertIs(shows(claim, thing), shows_slowly(claim, thing), (claim, thing))
            self.assertIs(is_claim_paper(claim, thing), shows_slowly(claim, thing) is not None)


class Apart(DoorCase):

    def check(self, graph, a, b, most):
        for many in range(1, 5):
            if many <= most:
                got = paths_apart(graph, a, b, many)
                self.assertTrue(are_apart(graph, a, b, many, got), (graph, a, b, many, got))
                self.assertEqual(list(got), sorted(got))
            else:
                self.raises("NoPaper()", paths_apart, graph, a, b, many)

    def test_many_graphs(self):
        """As many as the least cut has vertices."""
        seen = set()
        for graph in made.many_graphs(8, 70, 5):
            for a, b in [(a, b) for a in range(len(graph)) for b in range(len(graph))][::3]:
                if a == b or b in graph[a]:
                    for many in range(1, 5):
                        self.raises("CanNot()", paths_apart, graph, a, b, many)
                else:
                    rest = [c for c in range(len(graph)) if c not in (a, b)]
                    most = min(k for k in range(len(rest) + 1) for own in combinations(rest, k)
                               if parts_them(graph, a, b, 99, own))
                    self.check(graph, a, b, most)
                    seen.add(min(most, 5))
        self.assertEqual(seen, {0, 1, 2, 3, 4, 5})

    def test_where_paths_must_be_led_anew(self):
        """The shortest PATH has to give way."""
        graph = slow.made(8, [(0, 1), (1, 2), (2, 3), (0, 4), (4, 2), (1, 5), (5, 3), (4, 6), (6, 7), (7, 3)])
        self.check(graph, 0, 3, 2)
        self.check(graph, 3, 0, 2)

    def test_forty_vertices(self):
        """No bound is told but that of all GRAPHS."""
        self.check(made.ring_graph(40), 3, 27, 2)
        drum = slow.graph_in(made.drum(20))
        self.check(drum, 0, 30, 4)
        self.check(((),) * 40, 0, 39, 0)
        row = slow.made(40, [(k, k + j) for k in range(40) for j in (1, 2, 3) if k + j < 40])
        self.check(row, 0, 39, 3)
        wide = slow.made(40, [(a, b) for a in (0, 1) for b in range(2, 40)])
        self.check(wide, 0, 1, 38)
        self.check(wide, 5, 39, 2)


def bounded():
    """For each word with a bound a CLAIM as great as it lets, and one above."""
    ring = made.ring_graph
    disc = {n: (ring(n), tuple(range(n))) for n in (9, 10)}
    return [(("held", ring(12)), ("held", ring(13))), (("flat", ring(16)), ("flat", ring(17))),
            (("apart", ring(16), 0, 9, 2), ("apart", ring(17), 0, 9, 2)),
            (("home", ring(16), tuple(range(16))), ("home", ring(17), tuple(range(17)))),
            (("spare", disc[9], 0, (3, 4), 8, (0, 8)), ("spare", disc[10], 0, (3, 4), 8, (0, 8))),
            (("book", 40, ((0, 38),), ()), ("book", 41, ((0, 38),), ()))]


class Bounds(DoorCase):

    def test_as_great_as_they_are(self):
        for claim, above in bounded():
            self.assertIs(is_so(claim), claim[0] != "held")
            self.assertIs(shows(claim, claim_paper(claim)), claim[0] != "held")
            for own in (claim, above):
                self.assertIs(is_claim(own), True)

    def test_the_greatest(self):
        """Of both kinds, at the bounds."""
        dice = Random(6)
        whole = made.complete
        page = tuple(sorted([(0, k) for k in range(2, 39)] + [(1, 39)]))
        full = made.Map(9, 9, 27, True)
        disc = (full.turns, full.outside())
        asks = made.asks(disc)
        lot = [("held", whole(12)), ("held", slow.graph_in(made.stacked(dice, 12))), ("flat", whole(16)), ("own", whole(40), tuple(range(40)), ()),
               ("flat", slow.graph_in(made.stacked(dice, 16))), ("home", whole(16), tuple(range(16))), ("own", made.ring_graph(40), (0, 7)[:1], (0,)),
               ("home", slow.graph_in(made.stacked(dice, 16)), (0, 1, 2)), ("book", 40, page, ()), ("book", 40, page[:-1], page[-1:]),
               ("apart", slow.graph_in(made.drum(8)), 0, 12, 4), ("apart", made.ring_graph(16), 0, 8, 4),
               ("own", slow.made(40, [(a, b) for a in (0, 1) for b in range(2, 40)]), (0, 2, 1), (2,)),
               ("home", slow.graph_in(made.drum(8)), tuple(range(8)) + tuple(range(8, 16)) + (0,))]
        lot += [("spare", disc, v, edge, u, tuple(sorted({u, v}))) for v, edge, u in asks[:3]]
        for claim in lot:
            self.assertIs(is_claim(claim), True, claim)
            self.assertIs(shows(claim, claim_paper(claim)), is_so(claim))

    def test_just_above(self):
        for claim, above in bounded():
            for function, rest in ((is_so, ()), (claim_paper, ()), (is_claim_paper, (None,)), (shows, (None,)), (shows, ((),))):
                self.raises("TooMany()", function, above, *rest)
            for function in (not_so, words_so):
                self.raises("TooMany()", function, (above,))
                self.raises("TooMany()", function, (claim, claim, above, claim))
                # A CLAIM that is not so, with the same word ahead.
                self.raises("TooMany()", function, (("held", RING), ("book", 4, ((0, 2), (1, 3)), ()), claim, above))

    def test_just_above_with_what_would_be_a_paper(self):
        for (claim, above), paper in zip(bounded(), ((0, 2), made.ring_graph(17), ((0, *range(16, 8, -1)), tuple(range(10))), (),
                                                     ((0, *range(9, 7, -1)), ()), rows_of((41, ((0, 38),), ())))):
            for function in (shows, is_claim_paper):
                self.raises("TooMany()", function, above, paper)
        disc, v, edge, u, spared = bounded()[4][1][1:]
        for paper in (own_way(disc, v, edge, u, u), ((((1,),),),)):
            self.raises("TooMany()", shows, ("spare", disc, v, edge, u, (u,)), paper)

    def test_own_has_none(self):
        for n in (17, 40, 44):
            self.assertIs(is_so(("own", made.ring_graph(n), (0,), (0,))), False)
            self.assertIs(is_so(("own", made.ring_graph(n), (0, 1), (0,))), True)

    def test_turned_by_asks_only_some(self):
        """Those without a GRAPH that has both vertices are not asked, so they are never too great."""
        rows = dict(zip(("held", "flat", "apart", "home", "spare", "book"), [above for _, above in bounded()]))
        self.same(turned_by((rows["spare"], rows["book"]), (0, 1)), ())
        self.same(turned_by(tuple(rows.values()), (0, 17)), ())
        for word in ("held", "flat", "apart", "home"):
            self.raises("TooMany()", turned_by, (("flat", RING), rows["spare"], rows[word]), (0, 1))
        # Asked as it is, though the changed tuple is no CLAIM.
        self.raises("TooMany()", turned_by, (rows["apart"],), (0, 9))
        self.raises("TooMany()", turned_by, (("flat", slow.made(17, [(k, k + 1) for k in range(16)])),), (0, 1))


class Several(DoorCase):

    def test_not_so_and_words_so(self):
        dice = Random(7)
        lot = random_claims(140, 7)
        so = {claim: is_so(claim) for claim in lot}
        for _ in range(120):
            own = tuple(dice.choice(lot) for _ in range(dice.randint(0, 9)))
            self.same(not_so(own), tuple(k for k, claim in enumerate(own) if not so[claim]))
            words = {claim[0] for claim in own}
            due = [word for word in words if all(so[claim] for claim in own if claim[0] == word)]
            self.same(words_so(own), tuple(sorted(due)))

    def test_no_claim_at_all(self):
        self.same((not_so(()), words_so(()), turned_by((), (0, 1))), ((), (), ()))

    def turned(self, claim, pair):
        """Whether pair turns this CLAIM, put in or taken out by hand."""
        word, graph = claim[:2]
        if word in ("spare", "book") or pair[1] >= len(graph):
            return False
        new = (word, slow.made(len(graph), slow.edges(graph) ^ {pair}), *claim[2:])
        return is_claim_slowly(new) and is_so(claim) != is_so(new)

    def test_turned_by(self):
        seen = set()
        dice = Random(8)
        lot = random_claims(210, 8)
        for _ in range(150):
            own = tuple(dice.choice(lot) for _ in range(dice.randint(0, 9)))
            pair = tuple(sorted(dice.sample(range(8), 2)))
            due = tuple(k for k, claim in enumerate(own) if self.turned(claim, pair))
            self.same(turned_by(own, pair), due)
            seen.update(own[k][0] for k in due)
        self.assertEqual(seen, {"flat", "held", "apart", "own", "home"})

    def test_where_the_changed_tuple_is_no_claim(self):
        """A PATH that loses a step, neighbours that were none, a GRAPH of two PIECES."""
        row = ((1,), (0, 2), (1,))
        self.same(turned_by((("own", row, (0, 1), ()), ("flat", row), ("apart", row, 0, 2, 2)), (0, 1)), ())
        self.same(turned_by((("apart", row, 0, 2, 2), ("apart", row, 0, 2, 1)), (0, 2)), ())
        self.same(turned_by((("apart", row, 0, 2, 1), ("apart", row, 0, 2, 2)), (1, 2)), (0,))
        self.same(turned_by((("home", row, (0, 1, 2)), ("home", RING, (0, 1, 2, 3))), (0, 2)), (0,))
        self.same(turned_by((("home", row, (0, 1, 2)), ("home", RING, (0, 1, 2, 3))), (0, 3)), (1,))
        self.same(turned_by((("flat", slow.made(5, slow.edges(made.complete(5)) - {(0, 4)})),), (0, 4)), (0,))
