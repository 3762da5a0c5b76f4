"""Point [23]: pairs.py."""

from collections import Counter
from itertools import combinations
from random import Random

from tests import made, slow
from tests.doors import DoorCase
from threefeet.pairs import (
    home_by_limbs, is_home_by_limbs, limb_pairs, limbs, limbs_holding, spliced, torso, visits_let)

ROOF = ((1, 2, 3), (0, 2), (0, 1, 3), (0, 2))
HUBS = ((2, 3, 4), (2, 3, 4), (0, 1), (0, 1), (0, 1))
FOUR = made.FOUR


def limbed(many, most, seed):
    dice = Random(seed)
    return [made.Limbed(dice, dice.randint(3, most)) for _ in range(many)]


def connected(many, most, seed):
    return [graph for graph in made.many_graphs(most, many, seed) if len(slow.pieces(graph)) == 1]


def ties_of(lot):
    return Counter(tie for limb in lot for tie in limb[1])


class Limbs(DoorCase):

    def check_told(self, graph, lot):
        """What is told of the limbs, against these."""
        many = ties_of(lot)
        self.same(limb_pairs(graph), tuple(sorted(many.items())))
        for a in range(len(graph)):
            self.same(limbs_holding(graph, a), sum(a in own[0] for own in lot))
        self.same(visits_let(graph), len(graph) + sum(len(own[0]) for own in lot))
        for limb in lot:
            self.same(torso(graph, limb), (limb[0], slow.torso(graph, limb)))

    def test_those_that_a_graph_was_put_together_of(self):
        kinds = set()
        for own in limbed(300, 16, 1):
            graph = slow.graph_in(own.turns)
            self.same(limbs(graph), own.limbs)
            self.check_told(graph, own.limbs)
            for (a, b), many in ties_of(own.limbs).items():
                kinds.add((b in graph[a], min(many, 3)))
        # Ties that are EDGES and ties that are none, of two LIMBS and of more.
        self.assertEqual(kinds, {(True, 2), (True, 3), (False, 2), (False, 3)})

    def test_by_splitting_and_joining(self):
        """In any order, and also of graphs that cannot be drawn."""
        dice = Random(2)
        lot = connected(120, 8, 2) + [slow.graph_in(own.turns) for own in limbed(40, 9, 2)]
        lot += [made.complete(5), made.complete_three(), HUBS, ROOF, made.ring_graph(8), slow.made(7, [(0, k) for k in range(1, 7)])]
        for graph in lot:
            due = slow.limbs(graph, dice)
            self.same(limbs(graph), due)
            self.check_told(graph, due)

    def test_guarantees(self):
        lot = [slow.graph_in(own.turns) for own in limbed(60, 12, 3)] + connected(40, 9, 3)
        for graph in lot:
            found = limbs(graph)
            for limb in found:
                small = slow.torso(graph, limb)
                is_edge = len(small) == 2 and small == ((1,), (0,))
                self.assertTrue(is_edge or slow.is_ring(small) or slow.firm(small), (graph, limb))
            for block in slow.blocks(graph) if len(graph) < 10 else ():
                own = [limb for limb in found if set(limb[0]) <= set(block)]
                many = ties_of(own)
                if len(block) > 2:
                    self.assertEqual(len(own) + len(many) - 1, sum(many.values()))
                else:
                    self.same(own, [(block, ())])

    def test_edges(self):
        self.same(limbs(((),)), ())
        self.same((limb_pairs(((),)), visits_let(((),)), limbs_holding(((),), 0)), ((), 1, 0))
        self.same(limbs(((1,), (0,))), (((0, 1), ()),))
        self.same((limb_pairs(((1,), (0,))), visits_let(((1,), (0,)))), ((), 4))
        self.same(torso(((1,), (0,)), ((0, 1), ())), ((0, 1), ((1,), (0,))))
        for n in range(3, 17):
            self.same(limbs(made.ring_graph(n)), ((tuple(range(n)), ()),))
        self.same(limbs(made.complete(16)), ((tuple(range(16)), ()),))
        # The chord stays between two rings; without it they are joined again.
        chord = slow.made(16, list(slow.edges(made.ring_graph(16))) + [(0, 8)])
        self.same(limb_pairs(chord), (((0, 8), 2),))
        self.same([len(own[0]) for own in limbs(chord)], [9, 9])

    def test_sixteen_vertices(self):
        """Fourteen vertices between two hubs: a tie of fourteen LIMBS; and a row of rings, each with a chord."""
        hubs = slow.made(16, [(a, b) for a in (0, 1) for b in range(2, 16)])
        self.same(limb_pairs(hubs), (((0, 1), 14),))
        self.same(limbs(hubs), tuple(((0, 1, k), ((0, 1),)) for k in range(2, 16)))
        self.same(visits_let(hubs), 16 + 14 * 3)
        row = slow.made(16, [(k, k + 1) for k in range(15)] + [(k, k + 2) for k in range(14)])
        self.same(limb_pairs(row), tuple(((k, k + 1), 2) for k in range(1, 14)))
        self.same([own[0] for own in limbs(row)], [(k, k + 1, k + 2) for k in range(14)])

    def test_errors(self):
        for graph in (((),), ROOF, HUBS, made.ring_graph(16)):
            for vertex in (len(graph), len(graph) + 3):
                self.raises(f"NoVertex({vertex})", limbs_holding, graph, vertex)


def round_count(row):
    """How often row goes between each two vertices, gone through from the last to the first as well."""
    return Counter(tuple(sorted(dart)) for dart in slow.darts(row))


def line_count(row):
    return Counter(tuple(sorted(dart)) for dart in zip(row, row[1:]))


def no_rest(row):
    return all(a != b for a, b in slow.darts(row))


def random_row(dice, pool, most):
    """Some of pool, no two alike side by side."""
    row = [dice.choice(pool)]
    for _ in range(dice.randint(0, most)):
        row.append(dice.choice([a for a in pool if a != row[-1]]))
    return row


def splice_asks(many, seed):
    """Of all kinds: a walk that goes over edge not at all, once, both ways, twice the same way."""
    dice = Random(seed)
    found = []
    while len(found) < many:
        pool = dice.sample(range(40) if dice.random() < 0.9 else range(10 ** 9), dice.randint(4, 8))
        a, b = sorted(pool[:2])
        walk = tuple(random_row(dice, dice.choice((pool, pool[:3], pool[:2] * 3 + pool)), 12))
        if len(walk) < 2 or not no_rest(walk) or a not in walk or b not in walk or round_count(walk)[(a, b)] > 2:
            continue
        closed = (a, *random_row(dice, pool[2:], 4), b, *random_row(dice, pool[2:], 4))
        opened = (a, *random_row(dice, pool[2:], 4), b)
        found.append((walk, (a, b), made.shifted(closed, dice.randrange(99)), opened))
    return found


class Spliced(DoorCase):

    def check(self, walk, edge, closed, opened, stays):
        got = spliced(walk, edge, closed, opened, stays)
        self.assertTrue(no_rest(got), (walk, edge, closed, opened, stays))
        times = round_count(walk)[edge]
        if stays or not times:
            due = round_count(walk) + round_count(closed)
        elif times == 1:
            due = round_count(walk) - Counter([edge]) + line_count(opened)
        else:
            due = round_count(walk) - Counter([edge, edge]) + round_count(closed)
        self.assertEqual(round_count(got), due, (walk, edge, closed, opened, stays))
        steps = [dart for dart in slow.darts(walk) if set(dart) == set(edge)]
        return len(steps), len(set(steps))

    def test_all_kinds(self):
        seen = set()
        for walk, edge, closed, opened in splice_asks(3000, 4):
            for stays in (True, False):
                seen.add(self.check(walk, edge, closed, opened, stays))
        self.assertEqual(seen, {(0, 0), (1, 1), (2, 1), (2, 2)})

    def test_ends_beside_the_step_and_between_last_and_first(self):
        closed, opened = (0, 3, 4, 2, 5), (0, 6, 7, 2)
        for walk in ((0, 2), (2, 0), (0, 2, 1), (2, 1, 0), (1, 0, 2), (1, 2, 0), (0, 2, 1, 2), (2, 1, 2, 0), (0, 1, 2, 1),
                     (0, 2, 1, 0, 2, 8), (2, 8, 0, 2, 1, 0), (2, 0, 1, 2, 0, 8), (0, 8, 2, 0, 1, 2), (0, 2, 0, 1), (2, 0, 2, 1),
                     (0, 2, 1, 0, 1), (1, 0, 2, 0), (1, 2, 0, 2)):
            for k in range(len(walk)):
                for j in range(len(closed)):
                    for stays in (True, False):
                        own = made.shifted(walk, k)
                        self.check(own, (0, 2), made.shifted(closed, j), opened, stays)
                        self.check(own, (0, 2), made.shifted(closed[::-1], j), opened, stays)

    def test_eighty_places(self):
        dice = Random(5)
        rest = range(10, 40)
        long = random_row(dice, rest, 0)
        while len(long) < 76:
            long.append(dice.choice([a for a in rest if a != long[-1]]))
        closed = (0, *long[:39], 1, *long[39:])
        opened = (0, *long, 1)
        for walk in ((0, 1, *long), (1, 0, *long), (0, *long[:30], 1, *long[30:]), (0, 1, *long[:30], 0, 1, *long[30:]),
                     (0, 1, *long[:30], 1, 0, *long[30:])):
            self.assertLessEqual(max(map(len, (walk, closed, opened))), 80)
            for stays in (True, False):
                self.check(made.shifted(walk, 17), (0, 1), closed, opened, stays)


class Homes(DoorCase):

    def check(self, turns, lot=None):
        """lot being the limbs, if they are known."""
        graph = slow.graph_in(turns)
        got = home_by_limbs(turns)
        lot = lot or limbs(graph)
        self.assertTrue(slow.is_home_by_limbs(graph, lot, got), (turns, got))
        self.assertIs(is_home_by_limbs(graph, got), True)
        self.assertLessEqual(len(got), visits_let(graph))

    def test_drawings(self):
        for own in limbed(250, 16, 6):
            self.check(own.turns, own.limbs)
        for k, own in enumerate(made.plane_maps(250, 1, 12, 6)):
            self.check(made.begun_elsewhere(own.turns, k))

    def test_trees_rings_and_the_least(self):
        dice = Random(7)
        for turns in (((),), ((1,), (0,)), made.ring_graph(16), FOUR, made.drum(8), made.stacked(dice, 16)):
            self.check(turns)
        for _ in range(20):
            n = dice.randint(2, 16)
            rows = slow.made(n, [(k, dice.randrange(k)) for k in range(1, n)])
            self.check(made.begun_elsewhere(rows, 3))

    def test_many_limbs_at_one_tie(self):
        """Between two hubs, with and without their EDGE: each other vertex comes at most twice."""
        for n in (4, 5, 9, 16):
            rows = [list(range(2, n)), list(range(n - 1, 1, -1))] + [[0, 1] for _ in range(2, n)]
            turns = tuple(tuple(row) for row in rows)
            self.assertTrue(slow.is_plane(turns))
            self.check(turns)
            rows[0].append(1)
            rows[1].append(0)
            turns = tuple(tuple(row) for row in rows)
            self.assertTrue(slow.is_plane(turns))
            self.check(turns)


class Judge(DoorCase):

    def test_wrong_things(self):
        seen = set()
        dice = Random(8)
        for own in limbed(30, 8, 8) + connected(40, 6, 8):
            graph = own if isinstance(own, tuple) else slow.graph_in(own.turns)
            if len(graph) > 1:
                lot = slow.limbs(graph, dice)
                walk = made.grown_walk(graph, dice)
                things = made.wrong(walk, 80) + [walk, walk * 2, walk * 3, walk[::-1], (0,), tuple(range(len(graph)))]
                things += [made.random_walk(graph, dice, 3 * len(graph)) for _ in range(20)]
                seen |= self.judged(lambda x: is_home_by_limbs(graph, x), lambda x: slow.is_home_by_limbs(graph, lot, x), things)
        self.assertEqual(seen, {True, False})

    def test_how_often_each_vertex_comes(self):
        """A hub of two with three between them is in three LIMBS and may come four times, the others twice."""
        for walk, due in (((0, 2, 1, 3, 0, 4), True), ((0, 2, 0, 3, 0, 4, 1, 4), True), ((0, 2, 0, 3, 0, 4, 0, 2, 1, 3), True),
                          ((0, 2, 0, 3, 0, 4, 0, 2, 0, 3, 1, 4), False), ((0, 2, 0, 2, 0, 2, 1, 3, 1, 4), False),
                          ((0, 2, 1, 3), False), ((2, 0, 3, 0, 4, 1), True), ((2, 0, 3, 1, 4), False), ((0,), False),
                          ((), False), (None, False), ([0, 2, 1, 3, 0, 4], False), ((False, 2, True, 3, 0, 4), False),
                          ((0, 2, 1, 3, 0, 5), False), ((0, 2, 1, 3, 0, -1), False), (("0", 2, 1, 3, 0, 4), False)):
            self.assertIs(is_home_by_limbs(HUBS, walk), due, walk)
        for thing, due in (((0,), True), ((0, 0), False), ((), False), ((1,), False), ([0], False), ((False,), False), (0, False)):
            self.assertIs(is_home_by_limbs(((),), thing), due, thing)
        self.assertIs(is_home_by_limbs(((1,), (0,)), (0, 1)), True)
        self.assertIs(is_home_by_limbs(((1,), (0,)), (0, 1, 0, 1)), True)
        self.assertIs(is_home_by_limbs(((1,), (0,)), (0, 1) * 3), False)

    def test_sixteen_vertices(self):
        ring = made.ring_graph(16)
        over = tuple(range(16))
        for thing, due in ((over, True), (over + over, True), (over * 3, False), (over[:-1], False),
                           (over + over[-2:0:-1], True)):
            self.assertIs(is_home_by_limbs(ring, thing), due)


class Corners(DoorCase):

    def test_all_small_connected_graphs(self):
        """Each graph of five vertices and one piece, its LIMBS by hand."""
        dice = Random(9)
        for n, step in ((2, 1), (3, 1), (4, 1), (5, 7)):
            pairs = list(combinations(range(n), 2))
            for bits in range(0, 2 ** len(pairs), step):
                graph = slow.made(n, [pair for k, pair in enumerate(pairs) if bits >> k & 1])
                if len(slow.pieces(graph)) == 1:
                    self.same(limbs(graph), slow.limbs(graph, dice))
