"""Point [16]: ownfeet.py."""

from random import Random

from tests import made, slow
from tests.blocks import HARD, Worst
from tests.doors import DoorCase
from tests.test_parts import lines_in
from threefeet.ownfeet import (
    crowded, is_crowded, is_own_feet, is_own_way, nobodys, own_feet, own_way, own_ways)

ACROSS = ((1, 3, 4), (0, 2), (1, 3, 4), (0, 2), (0, 2))
THREE = (((1, 2), (0, 2), (0, 1)), (0, 1, 2))
KITE = (((1, 2, 3), (0, 3, 2), (0, 1, 3), (0, 2, 1)), (0, 1, 3))
YARD = (((1, 9, 5, 4), (0, 2, 7, 9), (1, 3, 7), (2, 4, 5, 8), (0, 3), (0, 6, 3), (5, 9, 8), (1, 2, 8), (3, 6, 7), (0, 1, 6)),
        (0, 1, 2, 3, 4))


def cases(many, most, seed):
    """Graphs of one piece and of several, lines and spared vertices, on the line and off it."""
    dice = Random(seed)
    for k, graph in enumerate(made.many_graphs(most, many, seed)):
        for line in lines_in(graph, 3, k):
            for part in (0, 0.2, 0.5):
                yield graph, line, tuple(a for a in range(len(graph)) if dice.random() < part)


class Feet(DoorCase):

    def test_feet_or_a_crowd_never_both(self):
        seen = set()
        for graph, line, spared in cases(260, 9, 1):
            lot = slow.parts(graph, line)
            due = slow.own_choices(lot, spared)
            lots = slow.crowds(graph, line, spared)
            self.assertNotEqual(bool(due), bool(lots))
            if due:
                self.assertIn(repr(own_feet(graph, line, spared)), [repr(own) for own in due])
                self.raises("NoPaper()", crowded, graph, line, spared)
            else:
                self.assertIn(repr(crowded(graph, line, spared)), [repr(own) for own in lots])
                self.raises("NoPaper()", own_feet, graph, line, spared)
            seen.add((bool(due), min(len(lot), 3), bool(spared)))
        self.assertEqual(len(seen), 16 - 2)

    def test_others_have_to_give_way(self):
        """A foot that was given has to be given on, more than once."""
        for n in range(2, 8):
            for turn in (1, -1):
                # Part k hangs at line vertices k and k + 1, the last one at the first alone.
                line = tuple(range(n))[::turn]
                pairs = [(n + k, (k + d) % n) for k in range(n) for d in ((0, 1) if k < n - 1 else (1,))]
                graph = slow.made(2 * n, pairs + [(k, k + 1) for k in range(n - 1)])
                due = slow.own_choices(slow.parts(graph, line), ())
                self.assertEqual(len(due), 1)
                self.same(own_feet(graph, line, ()), due[0])
                for a in range(n):
                    self.assertTrue(slow.is_crowd(graph, line, (a,), crowded(graph, line, (a,))))

    def test_a_line_without_parts(self):
        for graph, line in ((THREE[0], (0, 1, 2)), (((),), (0,)), (((1,), (0,)), (1, 0))):
            for spared in ((), (0,)):
                self.same(own_feet(graph, line, spared), ())
                self.raises("NoPaper()", crowded, graph, line, spared)
                self.assertIs(is_own_feet(graph, line, spared, ()), True)
                self.assertIs(is_crowded(graph, line, spared, ()), False)
                self.assertIs(is_own_feet(graph, line, spared, (0,)), False)

    def test_parts_without_feet(self):
        self.raises("NoPaper()", own_feet, ((), (), ()), (1,), ())
        self.assertIn(crowded(((), (), ()), (1,), ()), (((0,),), ((2,),), ((0,), (2,))))
        self.assertIs(is_crowded(((), ()), (1,), (), ((0,),)), True)
        self.assertIs(is_own_feet(((), ()), (1,), (), ()), False)

    def test_as_great_as_the_bounds(self):
        wheel = slow.made(40, [(a, 39) for a in range(39)])
        self.raises("NoPaper()", own_feet, wheel, (39,), ())
        self.assertEqual(len(crowded(wheel, (39, 0), ())) >= 2, True)
        comb = slow.made(40, [(a, a + 1) for a in range(19)] + [(a, a + 20) for a in range(20)])
        self.same(own_feet(comb, tuple(range(20)), ()), tuple(range(20)))
        self.same(crowded(comb, tuple(range(20)), (7,)), ((27,),))
        self.assertIs(is_own_feet(comb, tuple(range(20))[::-1], (), tuple(range(20))), True)


class Judges(DoorCase):

    def test_all_choices_and_wrong_things(self):
        seen = set()
        for graph, line, spared in list(cases(60, 7, 2))[::3]:
            lot = slow.parts(graph, line)
            for thing in (slow.own_choices(lot, spared) + slow.own_choices(lot, ()))[:4] + [(0, 1), ()]:
                seen |= self.judged(lambda x: is_own_feet(graph, line, spared, x),
                                    lambda x: slow.is_own_feet(graph, line, spared, x), made.wrong(thing, 60) + [thing])
            for thing in slow.crowds(graph, line, spared)[:4] + [tuple(part[0] for part in lot)]:
                seen |= self.judged(lambda x: is_crowded(graph, line, spared, x),
                                    lambda x: slow.is_crowd(graph, line, spared, x), made.wrong(thing, 60) + [thing])
        self.assertEqual(seen, {True, False})

    def test_feet_that_lack_one_condition(self):
        line = (0, 1, 2)
        self.assertIs(is_own_feet(ACROSS, line, (1,), (2, 0)), True)
        for thing in ([2, 0], (2, False), (2,), (2, 0, 1), (2, 2), (2, 1), (2, 5), (-1, 0), ("2", 0), ((2,), 0), None, (), 2,
                      (3, 0), (10 ** 30, 0), (True, 0), ((2, 0),)):
            self.assertIs(is_own_feet(ACROSS, line, (1,), thing), False, thing)
        self.assertIs(is_own_feet(ACROSS, line, (0,), (2, 0)), False)

    def test_crowds_that_lack_one_condition(self):
        line = (0, 1, 2)
        self.assertIs(is_crowded(ACROSS, line, (0,), ((3,), (4,))), True)
        for thing in ([(3,), (4,)], ((3,), [4]), ((4,), (3,)), ((3,), (3,)), ((3,),), ((3,), (4,), (4,)), (3, 4), ((3, 4),), (),
                      ((),), ((3,), (1,)), ((3,), ()), ((3,), (4, 4)), None, "", ((3,), (True,)), ((3,), ("4",)),
                      ((3,), ((4,),)), ((3,), (-4,)), ((3,), None), ((3,), 4), (((3,), (4,)),)):
            self.assertIs(is_crowded(ACROSS, line, (0,), thing), False, thing)
        one = ((1,), (0, 2), (1,))
        self.assertIs(is_crowded(one, (0,), (0,), ((1, 2),)), True)
        self.assertIs(is_crowded(one, (0,), (0,), ((True, 2),)), False)
        self.assertIs(is_crowded(one, (0,), (0,), ((2, 1),)), False)
        self.assertIs(is_crowded(one, (0,), (), ((1, 2),)), False)

    def test_wrong_own_ways(self):
        seen = set()
        for disc in made.solid_discs(14, 4, 7, 3) + [KITE]:
            for v, edge, u in Random(4).sample(made.asks(disc), 4):
                for spared in ((), (u,), tuple(sorted((v, u)))):
                    own = own_way(disc, v, edge, u, u)
                    seen |= self.judged(lambda x: is_own_way(disc, v, edge, u, spared, x),
                                        lambda x: slow.is_own_way(disc, v, edge, u, spared, x),
                                        made.wrong(own, 100) + [own, own[0], own + ((),)])
        self.assertEqual(seen, {True, False})


class OwnWays(DoorCase):

    def check(self, disc, v, edge, u):
        lot = own_ways(disc, v, edge, u)
        self.assertIs(type(lot), tuple)
        for spared, got in zip((u, v) + edge, lot):
            self.assertTrue(slow.is_own_way(disc, v, edge, u, (spared,), got), (disc, v, edge, u, spared))
            self.same(own_way(disc, v, edge, u, spared), got)
            self.assertIs(is_own_way(disc, v, edge, u, (spared,), got), True)
            self.assertIs(is_own_way(disc, v, edge, u, (), got), True)
        self.assertEqual(len(lot), 4)

    def test_every_ask(self):
        for disc in made.solid_discs(26, 3, 8, 5) + [YARD, THREE, KITE]:
            for v, edge, u in made.asks(disc):
                self.check(disc, v, edge, u)

    def test_thin_discs_with_long_rims(self):
        dice = Random(6)
        for disc in made.solid_discs(80, 8, 12, 6):
            if len(disc[1]) > 4:
                for v, edge, u in dice.sample(made.asks(disc), 12):
                    self.check(disc, v, edge, u)

    def test_as_great_as_the_bounds(self):
        dice = Random(7)
        for disc in made.solid_discs(5, 19, 20, 7) + [(made.ring_graph(20), tuple(range(20)))]:
            for v, edge, u in dice.sample(made.asks(disc), 10):
                self.check(disc, v, edge, u)

    def test_the_ends_of_the_edge(self):
        self.same(own_way(KITE, 0, (0, 1), 1, 0), ((0, 1), own_feet(slow.graph_in(KITE[0]), (0, 1), (0,))))
        self.same([own_way(THREE, 0, (0, 1), 1, own) for own in (0, 1)], [((0, 1), (1,)), ((0, 1), (0,))])
        self.same(own_ways(THREE, 0, (1, 2), 1), (((0, 2, 1), ()),) * 4)


class Blocks(DoorCase):
    """What each block spares matters, so whatever OWN WAYS come from the blocks there are OWN FEET for the whole."""

    def test_hard_asks(self):
        for disc, v, edge, u, spared in HARD:
            worst = Worst(Random(8), 9)
            with worst.patched():
                for _ in range(6):
                    got = own_way(disc, v, edge, u, spared)
                    self.assertTrue(slow.is_own_way(disc, v, edge, u, (spared,), got))

    def test_many_asks(self):
        dice = Random(9)
        for _ in range(12):
            disc = made.stuffed(dice, 4, 11)
            worst = Worst(dice)
            with worst.patched():
                for v, edge, u in dice.sample(made.asks(disc), 40):
                    for spared in sorted({u, v, *edge}):
                        got = own_way(disc, v, edge, u, spared)
                        self.assertTrue(slow.is_own_way(disc, v, edge, u, (spared,), got), (disc, v, edge, u, spared))


class Doors(DoorCase):

    def test_errors_in_their_order(self):
        for disc in made.solid_discs(10, 4, 8, 8) + [THREE]:
            n, rim = len(disc[0]), disc[1]
            edge, wrong = made.rim_pairs(disc)[0], (rim[0], n)
            inner = sorted(slow.edges(slow.graph_in(disc[0])) - set(made.rim_pairs(disc)))
            for function, rest in ((own_way, (n,)), (is_own_way, ((), None)), (is_own_way, ((0,), ((0, 1), ()))),
                                   (own_ways, ())):
                for v in [a for a in range(n) if a not in rim] + [n, n + 4]:
                    self.raises(f"NoVertex({v})", function, disc, v, wrong, v, *rest)
                for pair in inner + [wrong, edge[::-1]]:
                    self.raises(f"NoEdge({pair})", function, disc, rim[0], pair, rim[0], *rest)
                for u in (rim[0], n, n + 3):
                    self.raises(f"NoVertex({u})", function, disc, rim[0], edge, u, *rest)
            v, edge = rim[0], made.rim_pairs(disc)[1]
            for u in range(n):
                for spared in range(n + 2):
                    if u != v and spared not in (u, v) + edge:
                        self.raises("CanNot()", own_way, disc, v, edge, u, spared)


class Nobodys(DoorCase):

    def test_nobodys(self):
        for line in ((0,), (2, 0, 1), (5, 3, 9, 0)):
            for own in ((), line, line[:1], line[1:], line[::-1], (line[-1], line[0])):
                self.same(nobodys(line, own), tuple(sorted(set(line) - set(own))))
        self.same(nobodys(tuple(range(39, -1, -1)), (3, 5)), tuple(a for a in range(40) if a not in (3, 5)))
