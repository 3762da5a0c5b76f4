"""Point [12]: walks.py."""

from itertools import product
from random import Random

from tests import made, slow
from tests.doors import DoorCase
from threefeet.walks import (
    begun_at, edge_uses, first_comings, first_fault, is_home, is_walk, merged, triples_for, twice, unpaired, visits)

BOTH = ((2, 3, 4), (2, 3, 4), (0, 1), (0, 1), (0, 1))
WALK = (0, 2, 1, 3, 0, 4)
ROW = ((1,), (0, 2), (1,))
WHEEL = ((1, 3, 4), (0, 2, 4), (1, 3, 4), (0, 2, 4), (0, 1, 2, 3))
ALONE = ((),)


def counted(things):
    return tuple(sorted((own, list(things).count(own)) for own in set(things)))


def all_tuples(n, most):
    for many in range(1, most + 1):
        yield from product(range(n), repeat=many)


def grown(many, least, most, seed):
    """Graphs of one piece and walks that mostly come over all, some of them faulty."""
    dice = Random(seed)
    for _ in range(many):
        graph = made.random_graph(dice.random(), dice.randint(least, most), dice.choice((0.3, 0.5, 0.8)))
        if len(slow.pieces(graph)) == 1 and len(graph) > 1:
            yield graph, made.grown_walk(graph, dice)


def homes(many, least, most, seed):
    """Graphs and homes of them."""
    found = []
    for graph, walk in grown(many, least, most, seed):
        if slow.first_fault(graph, walk) is None:
            lot = slow.separators(graph, 3)
            triples = tuple([own for own in lot if a in own][-1] for a in range(len(graph)) if walk.count(a) == 2)
            found.append((graph, (walk, triples)))
    return found


class Judges(DoorCase):

    def test_all_short_tuples(self):
        """Of all graphs of up to four vertices; the walks of one vertex and of two among them."""
        seen = set()
        for graph in made.small_graphs(3):
            seen |= self.judged(lambda x: is_walk(graph, x), lambda x: slow.is_walk(graph, x), all_tuples(4, 4))
        self.assertEqual(seen, {True, False})
        for graph in list(made.small_graphs(4))[::7]:
            self.judged(lambda x: is_walk(graph, x), lambda x: slow.is_walk(graph, x), all_tuples(4, 4))

    def test_walks_of_one_vertex_and_of_two(self):
        self.assertIs(is_walk(ALONE, (0,)), True)
        self.assertIs(is_home(ALONE, ((0,), ())), True)
        for graph, thing in ((ALONE, (0, 0)), (ALONE, ()), (ALONE, (1,)), ((), ()), ((), (0,)), (((), ()), (0,)),
                             (((1,), (0,)), (0,)), (((1,), (0,)), (0, 0)), (((1,), (0,)), (0, 1, 0)), (ROW, (0, 2))):
            self.assertIs(is_walk(graph, thing), False, thing)
            self.assertIs(is_home(graph, (thing, ())), False, thing)
        for thing in ((0, 1), (1, 0), (0, 1, 0, 1)):
            self.assertIs(is_walk(((1,), (0,)), thing), True)
        self.assertIs(is_home(((1,), (0,)), ((1, 0), ())), True)
        self.assertIs(is_home(((1,), (0,)), ((0, 1, 0, 1), ((0,), (1,)))), False)

    def test_wrong_walks(self):
        seen = set()
        for graph, walk in made.random_walks(40, 2, 7, 1):
            things = made.wrong(walk, 150) + [walk, walk[::-1]]
            seen |= self.judged(lambda x: is_walk(graph, x), lambda x: slow.is_walk(graph, x), things)
        self.assertEqual(seen, {True, False})

    def test_wrong_homes(self):
        seen = set()
        lot = [(BOTH, (WALK, ((0, 1, 2),)))] + homes(900, 4, 8, 2)[:60]
        self.assertGreater(sum(1 for _, own in lot if own[1]), 10)
        for graph, own in lot:
            things = made.wrong(own, 300) + [own, (own[0][::-1], own[1]), (own[0], own[1], ()), own[:1], own[0]]
            seen |= self.judged(lambda x: is_home(graph, x), lambda x: slow.is_home(graph, x), things)
        self.assertEqual(seen, {True, False})

    def test_homes_that_lack_one_condition(self):
        self.assertIs(is_home(BOTH, (WALK, ((0, 1, 3),))), True)
        for triples in ((), ((0, 1),), ((1, 0, 2),), ((0, 2, 3),), ((0, 1, 2), (0, 1, 2)), ((0, 1, 9),), ([0, 1, 2],),
                        [(0, 1, 2)], ((False, True, 2),), ((0, 1, 2, 3),), ((0, 1, 1),), ((-1, 0, 1),), (None,), None, ((),),
                        ((0, 1, 10 ** 30),), (((0,), 1, 2),), ((2, 3, 4),), "", ("012",)):
            self.assertIs(is_home(BOTH, (WALK, triples)), False, triples)
        for walk in ((0, 2, 1, 3, 0), (0, 2, 1, 3), WALK + (2, 0, 4), (0, 2, 1, 3, 0, True), list(WALK), (0, 1, 2, 3, 4)):
            self.assertIs(is_home(BOTH, (walk, ((0, 1, 2),))), False, walk)
        self.assertIs(is_home(BOTH, [WALK, ((0, 1, 2),)]), False)
        # Three times is too often, also if TRIPLES leave the vertex out.
        self.assertIs(is_home(BOTH, ((0, 2, 0, 3, 1, 4), ((0, 1, 2),))), True)
        self.assertIs(is_home(BOTH, ((0, 2, 0, 3, 0, 4, 1, 4), ((1, 2, 4),))), False)

    def test_as_great_as_the_bounds(self):
        ring = made.ring_graph(20)
        every = tuple(range(20))
        self.assertIs(is_home(ring, (every, ())), True)
        there = every + every[-2:0:-1]
        self.assertIs(is_walk(ring, there), True)
        self.assertIs(is_home(ring, (there, tuple((min(a, (a + 2) % 20, (a + 9) % 20),
                                                   sorted((a, (a + 2) % 20, (a + 9) % 20))[1],
                                                   max(a, (a + 2) % 20, (a + 9) % 20)) for a in range(1, 19)))), True)
        wide = made.ring_graph(40)
        self.assertIs(is_walk(wide, tuple(range(40)) * 3), True)
        self.assertIs(is_walk(wide, tuple(range(39))), False)


class Counts(DoorCase):

    def test_visits_and_uses(self):
        for graph, walk in made.random_walks(150, 2, 8, 3):
            self.same(visits(walk), counted(walk))
            self.same(twice(walk), tuple(sorted(a for a in set(walk) if walk.count(a) == 2)))
            self.same(edge_uses(walk), counted(slow.steps(walk)))

    def test_one_vertex_and_two(self):
        self.same((visits((0,)), twice((0,)), edge_uses((0,)), first_comings((0,))), (((0, 1),), (), (), ()))
        self.same((visits((3, 1)), twice((3, 1)), edge_uses((3, 1))), (((1, 1), (3, 1)), (), (((1, 3), 2),)))
        self.same((first_comings((3, 1)), first_comings((3, 1, 3, 1))), (((1, 3),), ((1, 3),)))
        self.same((twice((3, 1, 3, 1)), edge_uses((3, 1, 3, 1))), ((1, 3), (((1, 3), 4),)))
        self.same((visits((0, 1, 0, 2, 0, 3)), twice((0, 1, 0, 2, 0, 3))), (((0, 3), (1, 1), (2, 1), (3, 1)), ()))

    def test_first_comings(self):
        for graph, walk in made.random_walks(150, 2, 8, 4):
            due = set()
            for k in range(1, len(walk)):
                if walk.index(walk[k]) == k:
                    due.add(tuple(sorted((walk[k - 1], walk[k]))))
            got = first_comings(walk)
            self.same(got, tuple(sorted(due)))
            self.assertEqual(len(got), len(set(walk)) - 1)
            own = slow.made(len(graph), got)
            self.assertTrue(any(set(piece) == set(walk) for piece in slow.pieces(own)))

    def test_as_great_as_the_bounds(self):
        walk = tuple(range(40)) * 2
        self.same(visits(walk), tuple((a, 2) for a in range(40)))
        self.same(edge_uses(walk)[:2] + (len(edge_uses(walk)),), (((0, 1), 2), ((0, 39), 2), 40))
        self.same(first_comings(walk), tuple((a, a + 1) for a in range(39)))


class Faults(DoorCase):

    def test_all_short_tuples(self):
        """Numbers that are no vertices among them."""
        kinds = set()
        for graph in made.small_graphs(3):
            for walk in all_tuples(4, 4):
                kinds.add(self.check(graph, walk))
        for walk in all_tuples(3, 6):
            kinds.add(self.check(ROW, walk))
        self.assertEqual(kinds, {None, "vertex", "edge", "missing", "often", "triple"})

    def check(self, graph, walk):
        due = slow.first_fault(graph, walk)
        self.same(first_fault(graph, walk), due)
        if slow.is_walk(graph, walk):
            self.check_triples(graph, walk)
        return due and due[0]

    def check_triples(self, graph, walk):
        doubled = [a for a in range(len(graph)) if walk.count(a) == 2]
        lot = slow.separators(graph, 3)
        if all(any(a in own for own in lot) for a in doubled):
            got = triples_for(graph, walk)
            self.assertEqual(len(got), len(doubled))
            for a, own in zip(doubled, got):
                self.assertIn(a, own)
                self.assertIn(own, lot)
                self.same(own, tuple(sorted(own)))
            over = all(walk.count(a) in (1, 2) for a in range(len(graph)))
            self.assertIs(slow.is_home(graph, (walk, got)), over)
            self.assertIs(is_home(graph, (walk, got)), over)
        else:
            self.raises("NoPaper()", triples_for, graph, walk)

    def test_many_walks(self):
        kinds = set()
        for graph, walk in list(grown(500, 4, 9, 5)) + made.random_walks(200, 3, 8, 6):
            kinds.add(self.check(graph, walk))
            dice = Random(len(walk))
            kinds.add(self.check(graph, made.changed(walk, (dice.randrange(len(walk)),), dice.randrange(len(graph) + 1))))
        self.assertEqual(kinds, {None, "vertex", "edge", "missing", "often", "triple"})

    def test_the_first_kind_decides(self):
        """Each of these has all faults but those of the kinds ahead of its own."""
        self.same(first_fault(WHEEL, (0, 2, 9, 0, 5, 0)), ("vertex", 2))
        self.same(first_fault(WHEEL, (0, 2, 0, 2, 0)), ("edge", 0))
        self.same(first_fault(WHEEL, (0, 1, 0, 1, 0, 4)), ("missing", 2))
        self.same(first_fault(WHEEL, (0, 1, 2, 3, 4, 3, 4, 3, 4)), ("often", 3))
        self.same(first_fault(BOTH, (0, 2, 1, 2, 0, 3, 1, 4)), None)
        self.same(first_fault(ROW, (1, 0, 1, 2)), ("triple", 1))
        self.same(first_fault(WHEEL, (0, 1, 2, 3, 0, 4)), None)
        self.same(first_fault(made.complete(5), (0, 1, 2, 3, 0, 4)), ("triple", 0))
        # The least number, not the first place; and the last step goes to the first place.
        self.same(first_fault(made.complete(4), (3, 2, 3, 2, 3, 2, 1, 0)), ("often", 2))
        self.same(first_fault(made.ring_graph(4), (3, 2, 1)), ("edge", 2))
        self.same(first_fault(made.ring_graph(4), (3, 2)), ("missing", 0))

    def test_graphs_of_one_vertex_and_of_none(self):
        self.same(first_fault(ALONE, (0,)), None)
        self.same(first_fault(ALONE, (0, 0)), ("edge", 0))
        self.same(first_fault(ALONE, (1,)), ("vertex", 0))
        self.same(first_fault((), (0,)), ("vertex", 0))
        self.same(first_fault(((), ()), (0,)), ("edge", 0))
        self.same(first_fault(((1,), (0,)), (1,)), ("edge", 0))
        self.same(first_fault(((1,), (0,)), (1, 0)), None)
        self.same(triples_for(ALONE, (0,)), ())

    def test_as_great_as_the_bounds(self):
        own = made.Map(4, 16, 48, True).graph
        walk = made.grown_walk(own, Random(1))
        self.same(first_fault(own, walk), slow.first_fault(own, walk))
        self.check_triples(own, walk)
        ring = made.ring_graph(16)
        every = tuple(range(16))
        self.same(first_fault(ring, every + every[-2:0:-1]), None)
        self.assertTrue(slow.is_home(ring, (every + every[-2:0:-1], triples_for(ring, every + every[-2:0:-1]))))
        self.same(first_fault(made.complete(16), every + (0, 0, 1)), ("edge", 16))
        self.same(first_fault(made.complete(16), every + (0, 2)), ("triple", 0))


class Changes(DoorCase):

    def test_begun_at(self):
        for graph, walk in made.random_walks(60, 2, 7, 7):
            for a in range(len(graph) + 1):
                if a in walk:
                    k = list(walk).index(a)
                    self.same(begun_at(walk, a), walk[k:] + walk[:k])
                else:
                    self.raises(f"NoVertex({a})", begun_at, walk, a)
        self.same(begun_at((0,), 0), (0,))

    def test_merged(self):
        dice = Random(8)
        for graph, walk in made.random_walks(80, 2, 7, 8):
            other = made.random_walk(graph, dice, 8)
            for a in range(len(graph) + 1):
                if a in walk and a in other:
                    self.check_merged(graph, walk, other, a)
                else:
                    self.raises(f"NoVertex({a})", merged, walk, other, a)

    def check_merged(self, graph, walk, other, a):
        got = merged(walk, other, a)
        j, k = walk.index(a), other.index(a)
        due = [walk[i] for i in range(j)] + [other[(k + i) % len(other)] for i in range(len(other))]
        self.same(got, tuple(due) + walk[j:])
        self.assertTrue(slow.is_walk(graph, got))
        self.assertEqual(sorted(slow.steps(got)), sorted(slow.steps(walk) + slow.steps(other)))

    def test_unpaired(self):
        seen = set()
        lot = made.random_walks(500, 3, 6, 9) + [(BOTH, WALK), (made.complete(4), (0, 1, 2, 0, 1, 3))]
        for graph, walk in lot + made.random_walks(100, 2, 4, 10, 6):
            for edge in slow.edges(graph):
                ahead, back = slow.darts(walk).count(edge), slow.darts(walk).count(edge[::-1])
                if (ahead, back) in ((2, 0), (0, 2)):
                    self.check_unpaired(graph, walk, edge)
                else:
                    self.raises("CanNot()", unpaired, walk, edge)
                seen.add((ahead, back))
        self.assertLessEqual({(2, 0), (0, 2), (1, 1), (0, 0), (1, 0), (3, 0), (0, 3), (2, 1), (2, 2)}, seen)

    def check_unpaired(self, graph, walk, edge):
        got = unpaired(walk, edge)
        self.assertTrue(slow.is_walk(graph, got))
        due = [own for own in slow.steps(walk) if own != edge]
        self.assertEqual(sorted(slow.steps(got)), sorted(due))
        self.assertEqual(set(got), set(walk))
        for a in edge:
            self.assertEqual(got.count(a), walk.count(a) - 1)

    def test_unpaired_of_two_vertices(self):
        self.raises("CanNot()", unpaired, (0, 1), (0, 1))
        self.raises("CanNot()", unpaired, (0, 1), (0, 2))
        self.raises("CanNot()", unpaired, (0, 1, 0, 1), (0, 1))
        self.same(merged((0, 1), (1, 0), 1), (0, 1, 0, 1))

    def test_as_great_as_the_bounds(self):
        ring = tuple(range(40))
        self.same(begun_at(ring * 2, 17)[:3], (17, 18, 19))
        got = unpaired(ring + (0, 1) + ring[:1:-1], (0, 1))
        self.assertEqual(len(got), 78)
        self.assertNotIn((0, 1), slow.steps(got))
        self.same(len(merged(ring, ring[::-1], 5)), 80)
        self.raises("NoVertex(40)", merged, ring, ring, 40)
