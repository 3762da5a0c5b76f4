"""Point [20]: homes.py."""

from itertools import combinations
from random import Random

from tests import made, slow
from tests.doors import DoorCase
from threefeet.drawings import draw
from threefeet.homes import (
    closed_home, disc_home, home, home_by, is_disc_home, is_main, main, open_home, sure_word)

KITE = (((1, 2, 3), (0, 2), (0, 1, 3), (0, 2)), (0, 1, 2, 3))
BELL = (((1, 2, 3), (0, 4, 5, 2), (0, 1, 5, 6), (0, 6, 5, 4), (1, 3, 5), (1, 4, 3, 6, 2), (2, 5, 3)), (0, 2, 1))
THREE = (((1, 2), (0, 2), (0, 1)), (0, 1, 2))
FOUR = ((1, 2, 3), (0, 3, 2), (0, 1, 3), (0, 2, 1))
OCTA = ((1, 3, 5, 2), (0, 2, 4, 3), (0, 5, 4, 1), (0, 1, 4, 5), (1, 2, 5, 3), (0, 3, 4, 2))
ODD = ((1, 2, 3), (0, 2, 3), (0, 1, 3), (0, 1, 2))
FIVE = made.complete(5)
# Here it matters at which vertex the walk over the last block of a strand ends.
DEEP = (((1, 9, 10, 11, 4, 3), (0, 3, 8, 12), (3, 5, 4, 9, 12, 8), (0, 4, 6, 2, 8, 1), (0, 11, 10, 9, 2, 7, 3), (2, 6, 7),
         (3, 7, 5), (4, 5, 6), (1, 3, 2, 12), (0, 12, 2, 4, 10), (0, 9, 4, 11), (0, 10, 4), (1, 8, 2, 9)),
        ((1, 4, 2, 7, 6, 9), (0, 9, 6, 8, 5, 2, 4), (0, 4, 1, 5, 3, 7), (2, 5, 8, 6, 7), (0, 1, 2), (1, 8, 3, 2),
         (0, 7, 3, 8, 1, 9), (0, 2, 3, 6), (1, 6, 3, 5), (0, 6, 1)))
TOPS = ((1, 2, 3, 4), (0, 2, 3, 4), (0, 1, 3, 4), (0, 1, 2), (0, 1, 2))


def drawings(many, seed):
    """Of connectivity 3 or more."""
    dice = Random(seed)
    found = made.firm_maps(many, 4, 9, seed) + [made.stacked(dice, dice.randint(5, 11)) for _ in range(many)]
    return found + [FOUR, OCTA, *DEEP]


def is_closed_home(turns, edge, x):
    """Step by step."""
    graph = slow.graph_in(turns)
    if not slow.is_walk(graph, x) or any(x.count(a) not in (1, 2) for a in range(len(graph))):
        return False
    lot = slow.steps(x)
    if lot.count(edge) or any(lot.count(own) > 2 for own in lot):
        return False
    return all(x.count(a) == 1 for a in edge)


def is_main_slowly(graph, x):
    if type(x) is not tuple or len(x) != 2 or type(x[0]) is not str:
        return False
    word, paper = x
    if word == "cut":
        if not slow.a_set(paper) or len(paper) > 2 or any(a >= len(graph) for a in paper):
            return False
        return len(slow.pieces(graph, paper)) > 1
    return {"home": slow.is_home, "forbidden": slow.is_forbidden}.get(word, lambda *own: False)(graph, paper)


class Discs(DoorCase):

    def check(self, disc, p, q):
        got = disc_home(disc, p, q)
        self.assertTrue(slow.is_disc_home(disc, p, q, got), (disc, p, q))
        self.assertIs(is_disc_home(disc, p, q, got), True)
        if tuple(sorted((p, q))) in made.rim_pairs(disc):
            own = open_home(disc, p, q)
            self.assertTrue(slow.is_disc_home(disc, p, q, own))
            self.assertEqual((own[0], own[-1]), (p, q))
        else:
            self.raises("CanNot()", open_home, disc, p, q)

    def test_each_pair_of_the_rim(self):
        for disc in made.solid_discs(70, 3, 9, 1) + [KITE, BELL, THREE]:
            for p in disc[1]:
                for q in disc[1]:
                    if p != q:
                        self.check(disc, p, q)

    def test_deep_discs(self):
        dice = Random(2)
        for k in range(30):
            turns = made.stacked(dice, dice.randint(8, 13))
            disc = made.told_anew((turns, slow.faces(turns)[k % len(slow.faces(turns))]), dice)
            self.check(disc, *dice.sample(disc[1], 2))
            disc = made.hub_less(turns, dice.randrange(len(turns)))
            self.check(disc, *dice.sample(disc[1], 2))

    def test_as_great_as_the_bounds(self):
        dice = Random(3)
        lot = made.solid_discs(4, 20, 20, 3) + [(made.ring_graph(20), tuple(range(20)))]
        turns = made.stacked(dice, 20)
        for disc in lot + [(turns, slow.faces(turns)[0])]:
            for _ in range(3):
                self.check(disc, *dice.sample(disc[1], 2))
            self.check(disc, *disc[1][:2])

    def test_a_disc_of_three_vertices(self):
        for p, q in ((0, 1), (1, 0), (1, 2), (2, 0)):
            self.same(open_home(THREE, p, q), (p, 3 - p - q, q))
            self.assertEqual(sorted(disc_home(THREE, p, q)), [0, 1, 2])

    def test_errors_in_their_order(self):
        for disc in made.solid_discs(12, 4, 8, 4) + [THREE]:
            n, rim = len(disc[0]), disc[1]
            for function, rest in ((disc_home, ()), (open_home, ()), (is_disc_home, (None,)), (is_disc_home, ((0, 1),))):
                for p in [a for a in range(n) if a not in rim] + [n, n + 5]:
                    self.raises(f"NoVertex({p})", function, disc, p, p, *rest)
                    self.raises(f"NoVertex({p})", function, disc, p, n, *rest)
                    self.raises(f"NoVertex({p})", function, disc, rim[0], p, *rest)
                self.raises(f"NoVertex({rim[1]})", function, disc, rim[1], rim[1], *rest)
        self.raises("CanNot()", open_home, KITE, 2, 0)
        self.raises("NoVertex(4)", open_home, KITE, 0, 4)

    def test_wrong_things(self):
        seen = set()
        dice = Random(5)
        for disc in made.solid_discs(40, 4, 8, 5) + [BELL, KITE]:
            p, q = dice.sample(disc[1], 2)
            own = disc_home(disc, p, q)
            things = made.wrong(own, 100) + [own, own[::-1], made.shifted(own, 3), own + own]
            things += [made.grown_walk(slow.graph_in(disc[0]), dice) for _ in range(20)]
            seen |= self.judged(lambda x: is_disc_home(disc, p, q, x), lambda x: slow.is_disc_home(disc, p, q, x), things)
        self.assertEqual(seen, {True, False})

    def test_walks_that_lack_one_condition(self):
        for thing, due in (((1, 0, 3, 4, 5, 6, 3, 0, 2), True), ((2, 1, 0, 3, 4, 5, 6, 3, 0), True),
                           ([1, 0, 3, 4, 5, 6, 3, 0, 2], False), ((True, 0, 3, 4, 5, 6, 3, 0, 2), False),
                           ((1, 4, 3, 0, 3, 6, 5, 2), True), ((1, 0, 3, 4, 5, 6, 2), True), ((1, 4, 5, 6, 3, 0, 2), True),
                           ((0, 3, 4, 1, 5, 6, 2), False), ((1, 0, 3, 4, 5, 6, 3, 0), False), ((1, 0, 3, 6, 5, 2), False),
                           ((1, 0, 3, 4, 3, 0, 3, 6, 5, 2), False), ((1, 0, 2, 1, 5, 4, 3, 6, 2), False), ((), False), (None, False)):
            self.assertIs(slow.is_disc_home(BELL, 1, 2, thing), due, thing)
            self.assertIs(is_disc_home(BELL, 1, 2, thing), due, thing)
        # The EDGE of 0 and 1 three times; it may be used twice where its ends are no neighbours on the rim, or not p and q.
        ring = (made.ring_graph(4), (0, 1, 2, 3))
        for thing, due in (((0, 1, 2, 3), True), ((0, 1, 2, 3, 0, 3, 2, 1), False), ((0, 1, 2, 1), False)):
            self.assertIs(is_disc_home(ring, 0, 2, thing), due, thing)


class Drawings(DoorCase):

    def check_home(self, turns):
        graph = slow.graph_in(turns)
        own = home(turns)
        self.assertTrue(slow.is_home(graph, own), turns)
        if not slow.separators(graph, 3):
            self.assertEqual(len(own[0]), len(graph))
        return bool(own[1])

    def check_by(self, turns, edge):
        graph = slow.graph_in(turns)
        own = home_by(turns, edge)
        self.assertTrue(slow.is_home(graph, own), (turns, edge))
        self.assertEqual(slow.steps(own[0]).count(edge), 1)
        self.assertTrue(is_closed_home(turns, edge, closed_home(turns, edge)), (turns, edge))

    def test_home_and_each_edge(self):
        seen = set()
        for k, turns in enumerate(drawings(25, 6)):
            own = made.begun_elsewhere(turns, k)
            seen.add(self.check_home(own))
            for edge in slow.edges(slow.graph_in(turns)):
                self.check_by(own, edge)
        self.assertEqual(seen, {True, False})

    def test_where_no_walk_comes_but_once(self):
        """Less eight of the vertices the other twelve are left, all apart: a cycle cannot come to them all."""
        turns = FOUR
        for face in slow.faces(turns):
            turns = made.starred(turns, face, face)
        self.assertEqual(len(turns), 8)
        for face in slow.faces(turns):
            turns = made.starred(turns, face, face)
        self.assertEqual(len(turns), 20)
        self.assertTrue(self.check_home(turns))
        for edge in sorted(slow.edges(slow.graph_in(turns)))[::9]:
            self.check_by(turns, edge)

    def test_as_great_as_the_bounds(self):
        dice = Random(7)
        full = made.Map(3, 20, 60, True).turns
        for turns in (full, made.thinned(full, dice, 1, slow.firm), made.stacked(dice, 20), made.stacked(dice, 19)):
            self.check_home(turns)
            for edge in sorted(slow.edges(slow.graph_in(turns)))[::12]:
                self.check_by(turns, edge)

    def test_the_least(self):
        self.check_home(FOUR)
        for edge in combinations(range(4), 2):
            self.check_by(FOUR, edge)

    def test_errors_in_their_order(self):
        bad = [own.turns for own in made.plane_maps(60, 1, 7, 8) if not slow.firm(own.graph)]
        self.assertGreater(len(bad), 20)
        for turns in bad + [ODD, ((),), ((1,), (0,)), THREE[0], KITE[0]]:
            n = len(turns)
            self.raises("CanNot()", home, turns)
            for edge in slow.edges(slow.graph_in(turns)):
                for function in (home_by, closed_home):
                    self.raises("CanNot()", function, turns, edge)
                    self.raises(f"NoEdge({edge[::-1]})", function, turns, edge[::-1])
            for edge in ((0, 0), (0, n), (n, n + 1), (n, 0)):
                for function in (home_by, closed_home):
                    self.raises(f"NoEdge({edge})", function, turns, edge)
        for edge in ((0, 4), (4, 0), (1, 0), (0, 6), (6, 7), (2, 2)):
            for function in (home_by, closed_home):
                self.raises(f"NoEdge({edge})", function, OCTA, edge)


class Main(DoorCase):

    def check(self, graph):
        got = main(graph)
        self.assertTrue(is_main_slowly(graph, got), graph)
        self.assertIs(is_main(graph, got), True)
        word = sure_word(graph)
        if slow.firm(graph):
            self.assertIn(word, ("home", "forbidden"))
        else:
            self.assertEqual(word, "cut")
        return word, got

    def test_small_graphs(self):
        seen = set()
        for graph in made.small_graphs(5):
            if len(graph) < 4:
                for function, rest in ((main, ()), (sure_word, ()), (is_main, (None,)), (is_main, (("cut", ()),))):
                    self.raises("Unfit()", function, graph, *rest)
            elif len(graph) == 4 or len(slow.edges(graph)) % 3 == 1:
                word, _ = self.check(graph)
                if slow.firm(graph):
                    self.assertEqual(word, "home" if slow.drawable(graph) else "forbidden")
                seen.add(word)
        self.assertEqual(seen, {"cut", "home", "forbidden"})

    def test_many_graphs(self):
        seen = set()
        for graph in made.many_graphs(10, 160, 9):
            if len(graph) > 3:
                word, got = self.check(graph)
                seen.add((word, got[0]))
                # A FORBIDDEN and a drawing are never both there.
                if slow.firm(graph) and got[0] == "forbidden":
                    self.assertEqual(word, "forbidden")
                if word == "home":
                    turns = draw(graph)
                    self.assertTrue(slow.is_plane(turns) and slow.graph_in(turns) == graph)
        self.assertEqual({word for word, _ in seen}, {"cut", "home", "forbidden"})

    def test_drawn_graphs_have_the_third(self):
        for turns in drawings(20, 10):
            graph = slow.graph_in(turns)
            self.assertEqual(sure_word(graph), "home")
            word, paper = main(graph)
            self.assertEqual(word, "home")
            self.assertTrue(slow.is_home(graph, paper))

    def test_as_great_as_the_bounds(self):
        dice = Random(11)
        for graph in (made.complete(16), made.ring_graph(16), ((),) * 16, made.Map(4, 16, 48, True).graph,
                      slow.graph_in(made.stacked(dice, 16)), made.random_graph(3, 16, 0.5), made.random_graph(4, 16, 0.3)):
            self.check(graph)
        self.same([sure_word(made.complete(16)), sure_word(made.ring_graph(16)), sure_word(((),) * 16)],
                  ["forbidden", "cut", "cut"])
        self.assertEqual(sure_word(slow.graph_in(made.stacked(dice, 16))), "home")

    def test_several_pieces(self):
        for graph in (((),) * 4, ((1,), (0,), (3,), (2,)), FIVE + ((),), slow.graph_in(FOUR) + ((),)):
            self.assertEqual(self.check(graph)[0], "cut")
            self.assertIs(is_main(graph, ("cut", ())), True)
        self.assertIs(is_main(FIVE + ((),), ("cut", (0,))), True)
        self.assertIs(is_main(FIVE + ((),), main(FIVE)), True)

    def test_several_words_may_fit(self):
        five = (0, 1, 2, 3, 4)
        self.assertIs(is_main(FIVE, ("home", (five, ()))), True)
        self.assertIs(is_main(FIVE, ("forbidden", main(FIVE)[1])), True)
        self.assertEqual(sure_word(FIVE), "forbidden")
        ring = made.ring_graph(5)
        self.assertIs(is_main(ring, ("home", (five, ()))), True)
        self.assertIs(is_main(ring, ("cut", (0, 2))), True)
        self.assertEqual(sure_word(ring), "cut")

    def test_wrong_things(self):
        seen = set()
        dice = Random(12)
        lot = [made.complete(5), made.complete_three(), TOPS, made.ring_graph(5), ((1,), (0, 2), (1, 3), (2,))]
        for graph in lot + [slow.graph_in(made.stacked(dice, 8)) for _ in range(4)] + made.many_graphs(8, 40, 12):
            if len(graph) > 3:
                own = main(graph)
                things = made.wrong(own, 120) + [own, list(own), own[:1], own + ((),), own[1]]
                things += [("cut", cut) for many in range(4) for cut in list(combinations(range(len(graph)), many))[::3]]
                seen |= self.judged(lambda x: is_main(graph, x), lambda x: is_main_slowly(graph, x), things)
        self.assertEqual(seen, {True, False})

    def test_things_that_lack_one_condition(self):
        trail = ((1,), (0, 2), (1, 3), (2,))
        for thing, due in ((("cut", (1,)), True), (("cut", (0, 1)), False), (("cut", (1, 2)), True), (("cut", (2, 0)), False),
                           (("cut", [1]), False), (("cut", (True,)), False), (["cut", (1,)], False), (("Cut", (1,)), False),
                           (("cut", (9,)), False), (("cut", (1, 1)), False), (("cut", (-1,)), False), (("cut", None), False),
                           (("cut",), False), (("cut", (1,), ()), False), ((None, (1,)), False), (("home", (1,)), False),
                           ((("cut",), (1,)), False), (("forbidden", (1,)), False), (None, False), ("cut", False), ((), False),
                           (("cut", (0, 1, 2)), False), ((["cut"], (1,)), False), (("cut", ((1,),)), False)):
            self.assertIs(is_main(trail, thing), due, thing)
        self.assertIs(is_main(TOPS, ("cut", (0, 1, 2))), False)
        self.assertIs(is_main(TOPS, ("home", ((0, 3, 0, 1, 4, 2), ((0, 1, 2),)))), True)
        self.assertIs(is_main(TOPS, ("home", ((0, 3, 0, 1, 4, 2), ((0, 1, 3),)))), False)
