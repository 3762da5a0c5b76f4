"""Point [18]: rounds.py."""

from itertools import combinations
from random import Random

from tests import made, slow
from tests.doors import DoorCase
from threefeet.rounds import (
    all_rounds, is_round, is_top_round, round_by, round_through, rounds_sparing, top_round)

STAR = (((1, 6, 5), (0, 2), (1, 3, 6), (2, 4), (3, 5, 6), (0, 4), (0, 2, 4)), (0, 1, 2, 3, 4, 5))
THREE = (((1, 2), (0, 2), (0, 1)), (0, 1, 2))
FOUR = ((1, 2, 3), (0, 3, 2), (0, 1, 3), (0, 2, 1))
ACROSS = ((1, 3, 4), (0, 2), (1, 4, 3), (0, 2), (0, 2))


def rounds_slowly(disc):
    graph = slow.graph_in(disc[0])
    return tuple(sorted(cycle for cycle in slow.cycles(graph) if slow.is_three_footed(disc, cycle)))


def is_top(turns, x):
    graph = slow.graph_in(turns)
    if type(x) is not tuple or len(x) != 2 or not slow.is_cycle(graph, x[0]) or len(x[0]) < 4:
        return False
    if any(len(part[1]) > 3 for part in slow.parts(graph, x[0])):
        return False
    return slow.is_own_feet(graph, x[0], (), x[1])


def soft_discs(many, least, most, seed):
    return [disc for disc in made.thin_discs(many, least, most, seed) if slow.soft(disc)]


class Rounds(DoorCase):

    def check_through(self, disc, p, q):
        got = round_through(disc, p, q)
        self.assertTrue(slow.is_round(disc, (p, q), got), (disc, p, q))
        self.assertIs(is_round(disc, tuple(sorted((p, q))), got), True)
        between = tuple(sorted((p, q)))
        if between in made.rim_pairs(disc):
            self.assertIn(between, slow.steps(got[0]))

    def check_by(self, disc, edge, other):
        got = round_by(disc, edge, other)
        self.assertTrue(slow.is_round(disc, other, got), (disc, edge, other))
        self.assertLessEqual({edge, other}, set(slow.steps(got[0])))

    def check_each(self, disc):
        for p in disc[1]:
            for q in disc[1]:
                if p != q:
                    self.check_through(disc, p, q)
        for edge in made.rim_pairs(disc):
            for other in made.rim_pairs(disc):
                if edge != other:
                    self.check_by(disc, edge, other)

    def test_every_ask(self):
        for disc in made.solid_discs(60, 3, 9, 1) + [STAR, THREE]:
            self.check_each(disc)

    def test_thin_discs_with_long_rims(self):
        for disc in made.solid_discs(40, 9, 12, 2):
            dice = Random(len(disc[1]))
            for _ in range(4):
                self.check_through(disc, *dice.sample(disc[1], 2))
                self.check_by(disc, *dice.sample(made.rim_pairs(disc), 2))

    def test_as_great_as_the_bounds(self):
        for disc in made.solid_discs(4, 20, 20, 3) + [(made.ring_graph(20), tuple(range(20)))]:
            dice = Random(len(disc[1]))
            for _ in range(4):
                self.check_through(disc, *dice.sample(disc[1], 2))
                self.check_by(disc, *dice.sample(made.rim_pairs(disc), 2))

    def test_a_disc_of_three_vertices(self):
        for p, q in ((0, 1), (1, 0), (0, 2), (2, 1)):
            cycle, own = round_through(THREE, p, q)
            self.assertEqual((sorted(cycle), own), ([0, 1, 2], ()))
        self.assertEqual(sorted(round_by(THREE, (0, 1), (0, 2))[0]), [0, 1, 2])
        self.same(all_rounds(THREE), ((0, 1, 2),))
        self.same((rounds_sparing(THREE, (0, 1, 2)), rounds_sparing(THREE, ())), (1, 1))

    def test_errors_in_their_order(self):
        for disc in made.solid_discs(12, 4, 8, 4) + [THREE]:
            n, rim = len(disc[0]), disc[1]
            off = [a for a in range(n) if a not in rim] + [n, n + 5]
            for p in off:
                self.raises(f"NoVertex({p})", round_through, disc, p, rim[0])
                self.raises(f"NoVertex({p})", round_through, disc, p, p)
                self.raises(f"NoVertex({p})", round_through, disc, rim[0], p)
            self.raises(f"NoVertex({rim[1]})", round_through, disc, rim[1], rim[1])
            edge = made.rim_pairs(disc)[0]
            inner = sorted(slow.edges(slow.graph_in(disc[0])) - set(made.rim_pairs(disc)))
            for pair in inner + [edge[::-1], (rim[0], n), (rim[0], rim[0])]:
                self.raises(f"NoEdge({pair})", round_by, disc, pair, edge)
                self.raises(f"NoEdge({pair})", round_by, disc, pair, pair)
                self.raises(f"NoEdge({pair})", round_by, disc, edge, pair)
            self.raises(f"NoEdge({edge})", round_by, disc, edge, edge)


class Judge(DoorCase):

    def test_wrong_things(self):
        seen = set()
        for disc in made.solid_discs(16, 4, 7, 5) + [STAR] + soft_discs(10, 5, 7, 5)[:3]:
            graph = slow.graph_in(disc[0])
            for cycle in rounds_slowly(disc)[:3] + tuple(slow.cycles(graph)[:2]):
                for own in slow.own_choices(slow.parts(graph, cycle), ())[:2]:
                    for spared in ((), tuple(sorted(cycle[:1])), tuple(sorted(cycle[1:3])), tuple(range(len(graph)))):
                        seen |= self.judged(lambda x: is_round(disc, spared, x), lambda x: slow.is_round(disc, spared, x),
                                            made.wrong((cycle, own), 60) + [(cycle, own), cycle, (cycle[::-1], own)])
        self.assertEqual(seen, {True, False})

    def test_rounds_that_lack_one_condition(self):
        good = ((0, 1, 2, 3, 4, 5), (4,))
        self.assertIs(is_round(STAR, (0, 3), good), True)
        self.assertIs(is_round(STAR, (0, 3), ((3, 2, 1, 0, 5, 4), (2,))), True)
        for thing in (list(good), good[:1], good + ((),), (list(good[0]), (4,)), (good[0], [4]), (good[0], ()), (good[0], (0,)),
                      (good[0], (1,)), (good[0], (4, 2)), (good[0][:-1], (4,)), (good[0] + (0,), (4,)), ((0, 1), ()), None, (),
                      ((False, 1, 2, 3, 4, 5), (4,)), ((0, 1, 2, 6), (2,)), ((0, 1, 2, 6, 4, 5), ()), ((), ()), (None, None)):
            self.assertIs(is_round(STAR, (0, 3), thing), False, thing)
        self.assertIs(is_round(STAR, (0, 4), good), False)
        self.assertIs(is_round(STAR, (0, 6), good), False)
        self.assertIs(is_round(STAR, (), good), True)


class All(DoorCase):

    def test_all_rounds(self):
        for disc in made.solid_discs(40, 3, 8, 6) + soft_discs(30, 4, 8, 6) + [STAR]:
            due = rounds_slowly(disc)
            self.same(all_rounds(disc), due)
            self.assertGreaterEqual(len(due), 0 if slow.soft(disc) else 1)

    def test_rounds_sparing(self):
        seen = set()
        for disc in made.solid_discs(24, 3, 7, 7) + soft_discs(20, 5, 7, 7)[:8] + [STAR]:
            graph = slow.graph_in(disc[0])
            lot = rounds_slowly(disc)
            for many in range(4):
                for spared in list(combinations(range(len(graph)), many))[::2]:
                    due = [cycle for cycle in lot if set(spared) <= set(cycle)
                           and slow.own_choices(slow.parts(graph, cycle), spared)]
                    self.same(rounds_sparing(disc, spared), len(due))
                    seen.add(min(len(due), 2))
        self.assertEqual(seen, {0, 1, 2})

    def test_eight_vertices_and_nine(self):
        thick = made.Map(3, 8, 24, True)
        disc = (thick.turns, thick.outside())
        self.same(all_rounds(disc), rounds_slowly(disc))
        for disc in made.solid_discs(2, 9, 9, 8) + made.thin_discs(2, 9, 12, 8):
            self.raises("TooMany()", all_rounds, disc)
            self.raises("TooMany()", rounds_sparing, disc, ())


class Tops(DoorCase):

    def test_top_round(self):
        kinds = set()
        for k, turns in enumerate(made.firm_maps(60, 4, 10, 9) + [FOUR]):
            turns = made.begun_elsewhere(turns, k)
            got = top_round(turns)
            self.assertTrue(is_top(turns, got))
            self.assertIs(is_top_round(turns, got), True)
            kinds.add(max(len(face) for face in slow.faces(turns)) > 3)
        self.assertEqual(kinds, {True, False})

    def test_as_great_as_the_bounds(self):
        full = made.Map(3, 20, 60, True).turns
        for turns in [full] + [made.thinned(full, Random(k), 1, slow.firm) for k in range(2)]:
            self.assertTrue(is_top(turns, top_round(turns)))

    def test_wrong_things(self):
        seen = set()
        for turns in made.firm_maps(20, 4, 7, 10) + [own.turns for own in made.maps(30, 4, 7, 10)] + [ACROSS]:
            graph = slow.graph_in(turns)
            for cycle in Random(len(graph)).sample(slow.cycles(graph), min(3, len(slow.cycles(graph)))):
                for own in (slow.own_choices(slow.parts(graph, cycle), ()) + [()])[:2]:
                    seen |= self.judged(lambda x: is_top_round(turns, x), lambda x: is_top(turns, x),
                                        made.wrong((cycle, own), 60) + [(cycle, own), (cycle[::-1], own)])
        self.assertEqual(seen, {True, False})

    def test_tops_that_lack_one_condition(self):
        self.assertIs(is_top_round(ACROSS, ((0, 1, 2, 3), (0,))), True)
        for thing in (((0, 1, 2, 3), (1,)), ((0, 1, 2, 3), ()), ((0, 1, 2, 3), (0, 2)), ([0, 1, 2, 3], (0,)), ((0, 1, 2), ()),
                      ((0, 1, 2, 3), [0]), [(0, 1, 2, 3), (0,)], ((0, 1, 2, 3), (False,)), None, ((0, 1, 2, 3),)):
            self.assertIs(is_top_round(ACROSS, thing), False, thing)
        # A triangle is too short, and a PART with four feet too many.
        self.assertIs(is_top_round(FOUR, ((0, 1, 2), (0,))), False)
        wheel = ((1, 4, 3), (0, 2, 4), (1, 3, 4), (0, 4, 2), (0, 1, 2, 3))
        self.assertIs(is_top_round(wheel, ((0, 1, 2, 3), (0,))), False)
        self.assertIs(is_top_round(wheel, ((0, 1, 2, 4), (0,))), True)
        # Turns that are not PLANE, and of two pieces, where a part has no foot.
        odd = ((1, 2, 3), (0, 2, 3), (0, 1, 3), (0, 1, 2))
        self.assertIs(is_top_round(odd, ((0, 1, 2, 3), ())), True)
        self.assertIs(is_top_round(odd + ((),), ((0, 1, 2, 3), ())), False)
        self.assertIs(is_top_round(odd + ((),), ((0, 1, 2, 3), (0,))), False)
