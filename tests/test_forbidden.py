"""Point [9]: forbidden.py."""

from random import Random

from tests import made, slow
from tests.doors import DoorCase
from tests.test_drawings import FIVE, THREE, beside, divided, petersen
from threefeet.drawings import can_draw
from threefeet.forbidden import bared, edges_in, forbidden, is_bare, is_forbidden, named

STEPS = ((0, 1), (0, 2), (0, 3), (0, 4), (1, 2), (1, 3), (1, 4), (2, 3), (2, 4), (3, 4))
CROSS = ((0, 3), (0, 4), (0, 5), (1, 3), (1, 4), (1, 5), (2, 3), (2, 4), (2, 5))


def renamed(graph, seed):
    names = list(range(len(graph)))
    Random(seed).shuffle(names)
    return slow.made(len(graph), [(names[a], names[b]) for a, b in slow.edges(graph)])


def undrawn():
    """Graphs that cannot be drawn."""
    lot = [graph for graph in made.many_graphs(10, 200, 1) if not can_draw(graph)]
    for k in range(6):
        lot.append(renamed(divided(divided(FIVE, (1, 2), k), (0, 4), 2), k))
        lot.append(renamed(divided(divided(THREE, (1, 3), k), (0, 4), 1), k))
        lot.append(renamed(beside(made.ring_graph(k + 3), THREE), k))
    return lot + [petersen(), beside(FIVE, ((), ())), beside(((),), THREE), made.complete(9)]


class Found(DoorCase):

    def test_forbidden(self):
        kinds = set()
        for graph in undrawn():
            paper = forbidden(graph)
            self.assertTrue(slow.is_forbidden(graph, paper))
            self.assertIs(is_forbidden(graph, paper), True)
            due = {tuple(sorted(step)) for path in paper[2] for step in zip(path, path[1:])}
            self.same(edges_in(paper), tuple(sorted(due)))
            kinds.add(paper[0])
        self.assertEqual(kinds, {"five", "three"})

    def test_bared(self):
        for graph in undrawn():
            edges = bared(graph)
            self.assertTrue(slow.a_set(()) and list(edges) == sorted(edges) and set(edges) <= slow.edges(graph))
            own = slow.made(len(graph), edges)
            self.assertTrue(self.is_bare_by_hand(own))
            self.assertIs(is_bare(own), True)
            self.same(edges_in(forbidden(own)), edges)
            self.same(bared(own), edges)

    def is_bare_by_hand(self, graph):
        """Without its vertices of one edge or none, five with four edges or six with three, all others two."""
        many = sorted(len(row) for row in graph)
        ends = [k for k in many if k > 2]
        others = [k for k in many if k < 3]
        return ends in ([4] * 5, [3] * 6) and 1 not in others and not can_draw(graph) and all(
            can_draw(slow.made(len(graph), slow.edges(graph) - {edge})) for edge in slow.edges(graph))

    def test_is_bare(self):
        seen = set()
        for graph in made.many_graphs(7, 150, 2) + undrawn() + [FIVE, THREE]:
            less = [slow.made(len(graph), slow.edges(graph) - {edge}) for edge in slow.edges(graph)]
            due = not can_draw(graph) and all(can_draw(own) for own in less)
            self.assertIs(is_bare(graph), due)
            seen.add(due)
        self.assertEqual(seen, {True, False})
        self.assertIs(is_bare(()), False)
        self.assertIs(is_bare(beside(((), ()), divided(THREE, (0, 3), 2))), True)
        self.assertIs(is_bare(beside(THREE, ((1,), (0,)))), False)
        self.assertIs(is_bare(beside(FIVE, FIVE)), False)

    def test_more_edges_than_fit(self):
        for own in made.maps(10, 5, 12, 3, True, True):
            n = len(own.graph)
            self.assertEqual(len(own.pairs), 3 * n - 6)
            pair = [(a, b) for a in range(n) for b in range(a + 1, n) if (a, b) not in own.pairs][0]
            graph = slow.made(n, own.pairs + [pair])
            self.assertTrue(slow.is_forbidden(graph, forbidden(graph)))

    def test_as_great_as_the_bounds(self):
        lot = [made.complete(15), made.random_graph(5, 16, 0.3), divided(THREE, (0, 3), 10), divided(FIVE, (0, 1), 11)]
        for graph in lot + [beside(FIVE, made.complete(11)), beside(made.ring_graph(10), THREE)]:
            self.assertTrue(slow.is_forbidden(graph, forbidden(graph)))
            self.assertIs(is_bare(slow.made(len(graph), bared(graph))), True)
        whole = made.complete(40)
        paper = ("five", (39, 1, 2, 3, 4), ((39,) + tuple(range(5, 39)) + (1,), (39, 2), (39, 3), (39, 4)) + STEPS[4:])
        self.assertIs(is_forbidden(whole, paper), True)

    def test_no_paper(self):
        for graph in ((), ((),), made.complete(4), made.ring_graph(16), made.Map(2, 16, 48, True).graph):
            self.raises("NoPaper()", forbidden, graph)
            self.raises("NoPaper()", bared, graph)


class Judge(DoorCase):

    def test_is_forbidden(self):
        seen = set()
        for graph in undrawn()[::6]:
            paper = forbidden(graph)
            things = made.wrong(paper, 250) + [paper]
            seen |= self.judged(lambda thing: is_forbidden(graph, thing),
                                lambda x: slow.is_forbidden(graph, x), things)
        self.assertEqual(seen, {True, False})

    def test_papers_that_lack_one_condition(self):
        graph = made.complete(7)
        five = ("five", (0, 1, 2, 3, 4), STEPS)
        self.assertIs(is_forbidden(graph, five), True)
        three = ("three", (0, 1, 2, 3, 4, 5), CROSS)
        self.assertIs(is_forbidden(graph, three), True)
        for rest, due in ((((3, 5, 4),), True), (((3, 5, 6, 4),), True), (((4, 3),), False), (((3, 0, 4),), False),
                          (((3, 5, 5, 4),), False), (((3, 7, 4),), False), ((), False), (((3,),), False),
                          (((3, 4), (3, 4)), False), (([3, 4],), False), (((3, True, 4),), False)):
            self.assertIs(is_forbidden(graph, ("five", (0, 1, 2, 3, 4), STEPS[:9] + rest)), due, rest)
        shared = ((0, 5, 1), (0, 5, 2)) + STEPS[2:]
        self.assertIs(is_forbidden(graph, ("five", (0, 1, 2, 3, 4), shared)), False)
        self.assertIs(is_forbidden(graph, ("five", (0, 1, 2, 3, 3), STEPS)), False)
        self.assertIs(is_forbidden(graph, ("three", (0, 1, 2, 3, 4), STEPS)), False)
        self.assertIs(is_forbidden(graph, ("five", (0, 1, 2, 3, 4, 5), STEPS)), False)
        self.assertIs(is_forbidden(graph, ("three", (0, 1, 3, 2, 4, 5), CROSS)), False)
        self.assertIs(is_forbidden(graph, ("six", (0, 1, 2, 3, 4, 5), CROSS)), False)
        self.assertIs(is_forbidden(graph, ("five", (False, 1, 2, 3, 4), STEPS)), False)
        self.assertIs(is_forbidden(graph, ("five", [0, 1, 2, 3, 4], STEPS)), False)
        self.assertIs(is_forbidden(graph, list(five)), False)
        self.assertIs(is_forbidden(graph, ("five", (0, 1, 2, 3, 4), list(STEPS))), False)
        self.assertIs(is_forbidden(graph, (["five"], (0, 1, 2, 3, 4), STEPS)), False)
        self.assertIs(is_forbidden(graph, ("five", (0, 1, 2, 3, 3), STEPS[:9] + ((3,),))), False)
        self.assertIs(is_forbidden(graph, five + ((),)), False)
        self.assertIs(is_forbidden(made.complete(4), five), False)
        self.assertIs(is_forbidden(slow.made(5, STEPS[:9]), five), False)
        self.assertIs(is_forbidden((), ("five", (), ())), False)


class Named(DoorCase):

    def test_named(self):
        for k, graph in enumerate(undrawn()):
            kind, corners, paths = forbidden(graph)
            names = tuple(Random(k).sample(range(60), len(graph)))
            got = named((kind, corners, paths), names)
            self.same(got, (kind, tuple(names[a] for a in corners),
                            tuple(tuple(names[a] for a in path) for path in paths)))
            greater = slow.made(60, [(names[a], names[b]) for a, b in slow.edges(graph)])
            self.assertTrue(slow.is_forbidden(greater, got))

    def test_edges_in(self):
        self.same(edges_in(("five", (0, 1, 2, 3, 4), STEPS)), STEPS)
        paper = ("five", (4, 3, 2, 1, 0), tuple((4 - a, 4 - b) for a, b in STEPS))
        self.same(edges_in(paper), STEPS)
