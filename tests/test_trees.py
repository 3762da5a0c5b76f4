"""Point [22]: trees.py."""

from itertools import combinations
from random import Random

from tests import made, slow
from tests.doors import DoorCase
from threefeet.trees import degrees, disc_tree, is_low_tree, is_tree, tree, tree_path, walk_round

FOUR = made.FOUR
ODD = ((1, 2, 3), (0, 2, 3), (0, 1, 3), (0, 1, 2))
KITE = (((1, 2, 3), (0, 2), (0, 1, 3), (0, 2)), (0, 1, 2, 3))
THREE = (((1, 2), (0, 2), (0, 1)), (0, 1, 2))


def random_tree(dice, n):
    """Each vertex in turn hangs at one of those ahead of it; then the vertices are told anew."""
    names = list(range(n))
    dice.shuffle(names)
    near = dice.random() < 0.3
    pairs = [(names[b], names[b - 1 if near else dice.randrange(b)]) for b in range(1, n)]
    return tuple(sorted(tuple(sorted(pair)) for pair in pairs))


def random_trees(many, most, seed):
    dice = Random(seed)
    return [random_tree(dice, dice.randint(1, most)) for _ in range(many)]



class Judges(DoorCase):

    def test_small_graphs(self):
        """All sets of edges of small graphs."""
        seen = set()
        for graph in made.many_graphs(5, 60, 1) + [FOUR, made.ring_graph(5), ((1,), (0,)), ((),), ()]:
            graph = slow.graph_in(graph)
            pairs = sorted(slow.edges(graph))
            for many in (len(graph) - 2, len(graph) - 1, len(graph)):
                for own in list(combinations(pairs, many))[:60] if many >= 0 else []:
                    due = slow.is_tree(graph, own)
                    self.assertIs(is_tree(graph, own), due, (graph, own))
                    seen.add(due)
                    for leaf in range(len(graph)):
                        low = slow.is_low_tree(graph, leaf, own)
                        self.assertIs(is_low_tree(graph, leaf, own), low)
                        seen.add(("low", low))
        self.assertEqual(seen, {True, False, ("low", True), ("low", False)})

    def test_wrong_things(self):
        seen = set()
        dice = Random(2)
        for graph in [own for own in made.many_graphs(8, 80, 2) if len(own) > 1 and len(slow.pieces(own)) == 1]:
            own = None
            while own is None or not slow.is_tree(graph, own):
                own = tuple(sorted(dice.sample(sorted(slow.edges(graph)), len(graph) - 1)))
            things = made.wrong(own, 120) + [own, own[::-1], tuple(pair[::-1] for pair in own), graph]
            seen |= self.judged(lambda x: is_tree(graph, x), lambda x: slow.is_tree(graph, x), things)
            leaf = dice.randrange(len(graph))
            self.judged(lambda x: is_low_tree(graph, leaf, x), lambda x: slow.is_low_tree(graph, leaf, x), things)
        self.assertEqual(seen, {True, False})

    def test_things_that_lack_one_condition(self):
        near = slow.graph_in(FOUR)
        good = ((0, 1), (1, 2), (2, 3))
        self.assertIs(is_tree(near, good), True)
        self.assertIs(is_low_tree(near, 0, good), True)
        for thing in (list(good), ([0, 1], (1, 2), (2, 3)), good[:2], good + ((0, 3),), ((0, 1), (0, 2), (1, 2)), good[::-1],
                      ((0, 1), (0, 1), (2, 3)), ((1, 0), (1, 2), (2, 3)), ((False, 1), (1, 2), (2, 3)), ((0, True), (1, 2), (2, 3)),
                      ((0, 1), (1, 2), (2, 4)), ((0, 1), (1, 2), (2, 2)), ((-4, 1), (1, 2), (2, 3)), ((0, 1, 2), (1, 2), (2, 3)),
                      ((0,), (1, 2), (2, 3)), ("01", "12", "23"), None, (), (None,) * 3, ((0, 1), (1, 2), 3), (((0, 1),),) * 3):
            self.assertIs(is_tree(near, thing), False, thing)
            self.assertIs(is_low_tree(near, 0, thing), False, thing)
        ring = made.ring_graph(4)
        self.assertIs(is_tree(ring, ((0, 1), (0, 2), (2, 3))), False)
        self.assertIs(is_tree(ring, ((0, 1), (0, 3), (2, 3))), True)

    def test_a_leaf_of_any_degree(self):
        """A vertex of the hub's tree has four edges; a leaf must have one of the tree, whatever it has of the graph."""
        wheel = slow.graph_in(made.starred(made.ring_graph(4), (0, 1, 2, 3), (0, 1, 2, 3)))
        hub = ((0, 4), (1, 4), (2, 4), (3, 4))
        self.assertIs(is_tree(wheel, hub), True)
        for leaf in range(5):
            self.assertIs(is_low_tree(wheel, leaf, hub), False)
        low = ((0, 1), (0, 4), (1, 2), (2, 3))
        self.assertEqual([is_low_tree(wheel, leaf, low) for leaf in range(5)], [False, False, False, True, True])
        claw = ((0, 4), (1, 4), (2, 3), (2, 4))
        self.assertEqual([is_low_tree(wheel, leaf, claw) for leaf in range(5)], [True, True, False, True, False])

    def test_one_vertex_and_none(self):
        self.assertIs(is_tree((), ()), False)
        self.assertIs(is_tree(((),), ()), True)
        self.assertIs(is_tree(((),), ((0, 0),)), False)
        self.assertIs(is_low_tree(((),), 0, ()), False)
        self.assertIs(is_tree(((), ()), ()), False)
        self.assertIs(is_low_tree(((1,), (0,)), 1, ((0, 1),)), True)

    def test_errors_whatever_thing_is(self):
        for graph in ((), ((),), slow.graph_in(FOUR), made.ring_graph(20)):
            for leaf in (len(graph), len(graph) + 7):
                for thing in ((), None, ((0, 1),), [[]]):
                    self.raises(f"NoVertex({leaf})", is_low_tree, graph, leaf, thing)

    def test_twenty_vertices(self):
        ring = made.ring_graph(20)
        row = tuple((k, k + 1) for k in range(19))
        self.assertIs(is_tree(ring, row), True)
        self.assertIs(is_low_tree(ring, 19, row), True)
        self.assertIs(is_low_tree(ring, 10, row), False)
        self.assertIs(is_tree(made.complete(20), tuple((0, k) for k in range(1, 20))), True)


class Walking(DoorCase):

    def test_degrees(self):
        for own in random_trees(60, 20, 3) + [(), ((0, 1),)]:
            n = len(own) + 1
            self.same(degrees(n, own), tuple(sum(a in pair for pair in own) for a in range(n)))

    def test_tree_path(self):
        for own in random_trees(30, 12, 4) + [()]:
            graph = slow.made(len(own) + 1, own)
            for a in range(len(graph)):
                for b in range(len(graph)):
                    self.same(tree_path(own, a, b), slow.all_paths(graph, a, b)[0])

    def test_walk_round(self):
        for own in random_trees(40, 16, 5) + [(), ((0, 1),)]:
            graph = slow.made(len(own) + 1, own)
            for vertex in range(len(graph)):
                walk = walk_round(own, vertex)
                self.assertTrue(slow.is_walk(graph, walk))
                self.assertEqual(walk[0], vertex)
                self.assertEqual(sorted(slow.steps(walk)), sorted(own * 2))

    def test_forty_vertices(self):
        row = tuple((k, k + 1) for k in range(39))
        self.same(tree_path(row, 39, 0), tuple(range(39, -1, -1)))
        self.same(len(walk_round(row, 20)), 78)
        self.same(walk_round(row, 0), tuple(range(40)) + tuple(range(38, 0, -1)))
        claw = tuple((0, k) for k in range(1, 40))
        self.same(degrees(40, claw), (39,) + (1,) * 39)
        self.same(tree_path(claw, 7, 39), (7, 0, 39))
        self.assertEqual(sorted(slow.steps(walk_round(claw, 5))), sorted(claw * 2))

    def test_errors(self):
        for own in random_trees(20, 8, 6) + [(), ((0, 1),)]:
            n = len(own) + 1
            for a in (n, n + 4):
                self.raises(f"NoVertex({a})", tree_path, own, a, a + 1)
                self.raises(f"NoVertex({a})", tree_path, own, a, 0)
                self.raises(f"NoVertex({a})", tree_path, own, 0, a)
                self.raises(f"NoVertex({a})", walk_round, own, a)
        self.same((tree_path((), 0, 0), walk_round((), 0)), ((0,), (0,)))


class Trees(DoorCase):

    def check(self, graph, leaf, got):
        self.assertTrue(slow.is_low_tree(graph, leaf, got), (graph, leaf, got))
        self.assertIs(is_low_tree(graph, leaf, got), True)

    def test_drawings(self):
        dice = Random(7)
        lot = made.firm_maps(30, 4, 9, 7) + [made.stacked(dice, dice.randint(4, 12)) for _ in range(30)] + [FOUR, made.drum(4)]
        for k, turns in enumerate(lot):
            turns = made.begun_elsewhere(turns, k)
            for leaf in range(len(turns)):
                self.check(slow.graph_in(turns), leaf, tree(turns, leaf))

    def test_where_no_path_goes_over_all(self):
        """Less eight vertices the other twelve are left, all apart: no path has them all, but a tree with threes."""
        turns = FOUR
        for _ in range(2):
            for face in slow.faces(turns):
                turns = made.starred(turns, face, face)
        self.assertEqual(len(turns), 20)
        for leaf in range(20):
            self.check(slow.graph_in(turns), leaf, tree(turns, leaf))

    def test_discs(self):
        for disc in made.solid_discs(60, 3, 9, 8) + [KITE, THREE]:
            for leaf in disc[1]:
                self.check(slow.graph_in(disc[0]), leaf, disc_tree(disc, leaf))

    def test_as_great_as_the_bounds(self):
        dice = Random(9)
        full = made.Map(3, 20, 60, True).turns
        for turns in (full, made.thinned(full, dice, 1, slow.firm), made.stacked(dice, 20)):
            for leaf in (0, 7, 19):
                self.check(slow.graph_in(turns), leaf, tree(turns, leaf))
        for disc in made.solid_discs(3, 20, 20, 9) + [(made.ring_graph(20), tuple(range(20)))]:
            for leaf in disc[1][:4]:
                self.check(slow.graph_in(disc[0]), leaf, disc_tree(disc, leaf))

    def test_errors_in_their_order(self):
        bad = [own.turns for own in made.plane_maps(40, 1, 7, 10) if not slow.firm(own.graph)]
        self.assertGreater(len(bad), 15)
        for turns in bad + [ODD, ((1,), (0,)), ((),), FOUR + ((),), KITE[0]]:
            self.raises(f"NoVertex({len(turns)})", tree, turns, len(turns))
            for leaf in range(len(turns)):
                self.raises("CanNot()", tree, turns, leaf)
        self.raises("NoVertex(0)", tree, (), 0)
        self.raises("NoVertex(4)", tree, FOUR, 4)
        for disc in made.solid_discs(15, 4, 8, 11) + [THREE]:
            n = len(disc[0])
            for leaf in [a for a in range(n) if a not in disc[1]] + [n, n + 3]:
                self.raises(f"NoVertex({leaf})", disc_tree, disc, leaf)
