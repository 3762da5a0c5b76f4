"""Point [17]: two.py."""

from itertools import combinations
from random import Random

from tests import made, slow
from tests.blocks import HARD_NEXT, Worst
from tests.doors import DoorCase
from threefeet.two import (
    all_ways, counter_disc, is_counter, most_spared, next_way, spare_papers, spares)

STAR = (((1, 6, 5), (0, 2), (1, 3, 6), (2, 4), (3, 5, 6), (0, 4), (0, 2, 4)), (0, 1, 2, 3, 4, 5))
THREE = (((1, 2), (0, 2), (0, 1)), (0, 1, 2))
KITE = (((1, 2, 3), (0, 3, 2), (0, 1, 3), (0, 2, 1)), (0, 1, 3))
KINDS = ("ends", "goal and edge", "start and edge")


def discs(many, seed, most=7):
    """Solid ones, and one or the other that is not."""
    soft = [disc for disc in made.thin_discs(many, 4, most, seed) if slow.soft(disc)]
    return made.solid_discs(many, 3, most, seed) + soft[:many // 3] + [STAR, THREE, KITE]


def is_counter_slowly(x):
    """Gone through whole."""
    if type(x) is not tuple or len(x) != 5:
        return False
    disc, v, edge, u, spared = x
    if not slow.is_disc(disc) or len(disc[0]) > 9 or slow.soft(disc):
        return False
    if not slow.numbers((v, u)) or not slow.numbers(edge) or not slow.a_set(spared) or len(spared) != 2:
        return False
    if v not in disc[1] or edge not in made.rim_pairs(disc) or u >= len(disc[0]) or u == v:
        return False
    pairs = [{u, v}] + [{a, b} for a in (u, v) for b in edge if a != b]
    return set(spared) in pairs and not slow.can_spare(disc, v, edge, u, spared)


def away(disc, v, u):
    """The rim from v on away from u, its neighbour."""
    row = made.shifted(disc[1], disc[1].index(v))
    return row if row[-1] == u else row[:1] + row[:0:-1]


class Through(DoorCase):
    """What goes through all WAYS."""

    def test_all_ways(self):
        many = set()
        for disc in discs(30, 1):
            for v, edge, u in made.asks(disc)[::3]:
                due = slow.all_ways(disc, v, edge, u)
                self.same(all_ways(disc, v, edge, u), due)
                many.add(min(len(due), 4))
        self.assertEqual(many, {1, 2, 3, 4})

    def test_spares_and_papers(self):
        seen = set()
        dice = Random(2)
        for disc in discs(24, 2):
            graph = slow.graph_in(disc[0])
            for v, edge, u in dice.sample(made.asks(disc), 5):
                lot = slow.all_ways(disc, v, edge, u)
                for part in (0, 0.2, 0.4, 0.6):
                    spared = tuple(a for a in range(len(graph)) if dice.random() < part)
                    papers = spare_papers(disc, v, edge, u, spared)
                    self.assertEqual((type(papers), len(papers)), (tuple, len(lot)))
                    for path, (word, paper) in zip(lot, papers):
                        self.check_paper(graph, path, spared, word, paper)
                        seen.add(word)
                    due = slow.can_spare(disc, v, edge, u, spared)
                    self.assertIs(spares(disc, v, edge, u, spared), due)
                    self.assertIs(due, any(own[0] == "own" for own in papers))
                    seen.add(due)
        self.assertEqual(seen, {"own", "crowded", True, False})

    def check_paper(self, graph, path, spared, word, paper):
        if word == "own":
            self.assertTrue(slow.is_own_feet(graph, path, spared, paper))
        else:
            self.assertEqual(word, "crowded")
            self.assertTrue(slow.is_crowd(graph, path, spared, paper))

    def test_most_spared(self):
        sizes = set()
        for k, disc in enumerate(discs(24, 3)):
            for v, edge, u in Random(k).sample(made.asks(disc), min(6, len(made.asks(disc)))):
                due = self.most_slowly(disc, v, edge, u)
                self.same(most_spared(disc, v, edge, u), due)
                sizes.update(len(own) for own in due)
                if not slow.soft(disc):
                    for a in (u, v) + edge:
                        self.assertTrue(any(a in own for own in due))
        self.assertLessEqual({2, 3, 4}, sizes)

    def most_slowly(self, disc, v, edge, u):
        corners = sorted({u, v, *edge})
        good = [own for many in range(5) for own in combinations(corners, many)
                if slow.can_spare(disc, v, edge, u, own)]
        return tuple(sorted(own for own in good if not any(set(own) < set(other) for other in good)))

    def test_discs_where_nothing_can_be_spared(self):
        # Three vertices hang at the two ends of a path of two: no OWN FEET for them at all.
        soft = (((1, 2, 3, 4), (4, 3, 2, 0), (0, 1), (0, 1), (0, 1)), (0, 1, 2))
        found = set()
        for rim in slow.faces(soft[0]):
            disc = (soft[0], rim)
            self.assertTrue(slow.is_disc(disc))
            for v, edge, u in made.asks(disc):
                due = self.most_slowly(disc, v, edge, u)
                self.same(most_spared(disc, v, edge, u), due)
                found.add(due)
        self.assertIn((), found)

    def test_only_nothing_can_be_spared(self):
        found = set()
        for disc in made.thin_discs(60, 5, 7, 4) + [(made.ring_graph(3), (0, 1, 2))]:
            if slow.soft(disc):
                for v, edge, u in made.asks(disc)[::2]:
                    due = self.most_slowly(disc, v, edge, u)
                    self.same(most_spared(disc, v, edge, u), due)
                    found.add(due)
        self.assertIn(((),), found)

    def test_nine_vertices_and_ten(self):
        nine = made.solid_discs(3, 9, 9, 5)
        for disc in nine:
            v, edge, u = Random(5).choice(made.asks(disc))
            self.same(all_ways(disc, v, edge, u), slow.all_ways(disc, v, edge, u))
            self.same(most_spared(disc, v, edge, u), self.most_slowly(disc, v, edge, u))
        thick = made.Map(3, 9, 27, True)
        disc = (thick.turns, thick.outside())
        v, edge, u = disc[1][0], tuple(sorted(disc[1][1:])), 8
        self.same(all_ways(disc, v, edge, u), slow.all_ways(disc, v, edge, u))
        for n in (10, 14):
            disc = made.solid_discs(1, n, n, 6)[0]
            v, edge, u = made.asks(disc)[0]
            self.raises("TooMany()", all_ways, disc, v, edge, u)
            self.raises("TooMany()", spares, disc, v, edge, u, ())
            self.raises("TooMany()", spare_papers, disc, v, edge, u, ())
            self.raises("TooMany()", most_spared, disc, v, edge, u)

    def test_errors_in_their_order(self):
        for disc in made.solid_discs(6, 5, 7, 7) + made.solid_discs(4, 10, 11, 7):
            n, rim = len(disc[0]), disc[1]
            edge, wrong = made.rim_pairs(disc)[0], (rim[0], n)
            inner = sorted(slow.edges(slow.graph_in(disc[0])) - set(made.rim_pairs(disc)))
            for function, rest in ((all_ways, ()), (spares, ((),)), (spare_papers, ((0,),)), (most_spared, ()),
                                   (next_way, ((),))):
                for v in [a for a in range(n) if a not in rim] + [n, n + 4]:
                    self.raises(f"NoVertex({v})", function, disc, v, wrong, v, *rest)
                for pair in inner + [wrong, edge[::-1]]:
                    self.raises(f"NoEdge({pair})", function, disc, rim[0], pair, rim[0], *rest)
                for u in (rim[0], n, n + 3):
                    self.raises(f"NoVertex({u})", function, disc, rim[0], edge, u, *rest)


class Counters(DoorCase):

    def test_each_kind(self):
        for kind in KINDS:
            got = counter_disc(kind)
            self.assertTrue(is_counter_slowly(got))
            self.assertIs(is_counter(got), True)
            _, v, edge, u, spared = got
            self.assertEqual(len({v, u, *edge}), 4)
            if kind == "ends":
                self.assertEqual(set(spared), {u, v})
            else:
                self.assertIn(u if kind == "goal and edge" else v, spared)
                self.assertEqual(len(set(spared) & set(edge)), 1)
        for kind in ("", "Ends", "ends ", "goal", "edge", "goal and edge and", "five"):
            self.raises("Unfit()", counter_disc, kind)

    def test_wrong_things(self):
        seen = set()
        for own in [counter_disc(kind) for kind in KINDS] + [(THREE, 0, (0, 1), 1, (0, 1))]:
            seen |= self.judged(is_counter, is_counter_slowly, made.wrong(own, 300) + [own, list(own), own[:4], own + (0,)])
        self.assertEqual(seen, {True, False})

    def test_each_ask_and_pair_of_some_discs(self):
        seen = set()
        for disc in discs(10, 8, 6):
            n = len(disc[0])
            for v, edge, u in Random(n).sample(made.asks(disc), 5):
                for spared in list(combinations(range(n), 2)) + [(), (u,), (v,), tuple(sorted({u, v, *edge}))]:
                    thing = (disc, v, edge, u, spared)
                    due = is_counter_slowly(thing)
                    self.assertIs(is_counter(thing), due)
                    seen.add(due)
        self.assertEqual(seen, {True, False})

    def test_things_that_lack_one_condition(self):
        good = (STAR, 0, (2, 3), 4, (0, 4))
        self.assertIs(is_counter(good), True)
        soft = (((1, 2, 3, 4), (4, 3, 2, 0), (0, 1), (0, 1), (0, 1)), (0, 1, 2))
        for k, own in ((0, None), (0, (STAR[0], STAR[1][::-1])), (0, STAR[0]), (0, list(STAR)), (0, soft), (1, 6), (1, True),
                       (1, False), (1, -1), (1, None), (1, (0,)), (2, (3, 2)), (2, [2, 3]), (2, (0, 2)), (2, (2,)), (2, (2, 3, 4)),
                       (2, ("2", 3)), (2, None), (3, 0), (3, 7), (3, -1), (3, None), (3, True), (3, "4"), (4, (4, 0)), (4, [0, 4]),
                       (4, (0, 3)), (4, (2, 3)), (4, (0,)), (4, (0, 4, 5)), (4, (0, 0)), (4, (False, 4)), (4, ()), (4, None),
                       (4, (0, 6)), (4, (1, 5)), (4, (0, 9))):
            thing = good[:k] + (own,) + good[k + 1:]
            self.assertIs(is_counter(thing), False, thing)
        # Too great: the greater disc is as bad, but has ten vertices.
        big = (((1, 6, 9), (0, 2), (1, 3, 6), (2, 4), (3, 5, 6), (7, 4), (0, 2, 4), (8, 5), (9, 7), (0, 8)), (0, 1, 2, 3, 4, 5, 7, 8, 9))
        self.assertTrue(slow.is_disc(big) and not slow.soft(big))
        self.assertFalse(slow.can_spare(big, 0, (2, 3), 4, (0, 4)))
        self.assertIs(is_counter((big, 0, (2, 3), 4, (0, 4))), False)
        less = (((1, 6, 8), (0, 2), (1, 3, 6), (2, 4), (3, 5, 6), (7, 4), (0, 2, 4), (8, 5), (0, 7)), (0, 1, 2, 3, 4, 5, 7, 8))
        self.assertTrue(is_counter_slowly((less, 0, (2, 3), 4, (0, 4))))
        self.assertIs(is_counter((less, 0, (2, 3), 4, (0, 4))), True)

    def test_some_of_the_four_alike(self):
        self.assertIs(is_counter((THREE, 0, (0, 1), 1, (0, 1))), True)
        self.assertIs(is_counter((THREE, 0, (1, 2), 1, (0, 1))), False)


class Next(DoorCase):

    def check(self, disc, v, edge, u, spared):
        got = next_way(disc, v, edge, u, spared)
        self.assertTrue(slow.is_own_way(disc, v, edge, u, spared, got), (disc, v, edge, u, spared))

    def each(self, disc):
        """All v, edge and u that are as they must be, and x."""
        for one, two in slow.darts(disc[1]):
            for v, u in ((one, two), (two, one)):
                for edge in made.rim_pairs(disc):
                    if set(edge) != {u, v}:
                        yield v, edge, u, [a for a in away(disc, v, u) if a in edge][0]

    def test_every_ask(self):
        seen = set()
        for disc in made.solid_discs(60, 3, 8, 9) + [STAR, THREE, KITE]:
            for v, edge, u, x in self.each(disc):
                self.check(disc, v, edge, u, tuple(sorted((u, v))))
                self.check(disc, v, edge, u, tuple(sorted((u, x))))
                seen.add((x == v, u in edge))
        self.assertEqual(len(seen), 3)

    def test_thin_discs_with_long_rims(self):
        for disc in made.solid_discs(60, 9, 13, 10):
            for v, edge, u, x in Random(10).sample(list(self.each(disc)), 4):
                self.check(disc, v, edge, u, tuple(sorted((u, v))))
                self.check(disc, v, edge, u, tuple(sorted((u, x))))

    def test_as_great_as_the_bounds(self):
        for disc in made.solid_discs(5, 20, 20, 11) + [(made.ring_graph(20), tuple(range(20)))]:
            for v, edge, u, x in Random(11).sample(list(self.each(disc)), 4):
                self.check(disc, v, edge, u, tuple(sorted((u, v))))
                self.check(disc, v, edge, u, tuple(sorted((u, x))))

    def test_hard_asks(self):
        """Whatever OWN WAYS the blocks give there are OWN FEET for the whole."""
        for disc, v, edge, u, spared in HARD_NEXT:
            worst = Worst(Random(13), 9)
            with worst.patched():
                for _ in range(6):
                    self.check(disc, v, edge, u, spared)

    def test_can_not(self):
        for disc in made.solid_discs(12, 4, 7, 12) + [STAR]:
            n = len(disc[0])
            for v, edge, u in made.asks(disc):
                near = tuple(sorted((u, v))) in made.rim_pairs(disc) and {u, v} != set(edge)
                fit = []
                if near:
                    x = [a for a in away(disc, v, u) if a in edge][0]
                    fit = [{u, v}, {u, x}]
                for spared in [(), (u,), (v,)] + list(combinations(range(n), 2)) + [tuple(range(n))]:
                    if set(spared) not in fit:
                        self.raises("CanNot()", next_way, disc, v, edge, u, spared)
