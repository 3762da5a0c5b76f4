"""Point [21]: spans.py."""

from itertools import combinations, permutations
from random import Random

from tests import made, slow
from tests.doors import DoorCase
from threefeet.spans import (
    is_path_over, is_round_over, is_thick, path_over, round_over, round_over_by, round_without)

CROWN = ((1, 3, 5, 2), (0, 2, 4, 3), (0, 5, 4, 1), (0, 1, 4, 5), (1, 2, 5, 3), (0, 3, 4, 2))
FOUR = made.FOUR
ODD = ((1, 2, 3), (0, 2, 3), (0, 1, 3), (0, 1, 2))
# Of connectivity 4, but not PLANE.
FIVE = made.complete(5)


def pairs_on(face):
    """The edges of two vertices next to one another on face."""
    return sorted({tuple(sorted(dart)) for dart in slow.darts(face)})


def thick_drawings(many, seed):
    lot = made.thick_maps(many, 6, 11, seed) + [CROWN, made.drum(4), made.drum(5), made.tent(5), made.tent(6)]
    return [made.begun_elsewhere(turns, k) for k, turns in enumerate(lot)]


class Guarantees(DoorCase):

    def check_round(self, turns, gone, got):
        self.assertTrue(slow.is_round_over(slow.graph_in(turns), gone, got), (turns, gone, got))
        self.assertIs(is_round_over(slow.graph_in(turns), gone, got), True)

    def check_path(self, turns, a, b):
        got = path_over(turns, a, b)
        self.assertTrue(slow.is_path_over(slow.graph_in(turns), a, b, got), (turns, a, b))
        self.assertIs(is_path_over(slow.graph_in(turns), a, b, got), True)

    def check_by(self, turns, face, edge, other):
        got = round_over_by(turns, face, edge, other)
        self.check_round(turns, (), got)
        self.assertLessEqual({edge, other}, set(slow.steps(got)))

    def test_over_all_and_over_all_but_one(self):
        for turns in thick_drawings(20, 1):
            self.check_round(turns, (), round_over(turns))
            for vertex in range(len(turns)):
                self.check_round(turns, (vertex,), round_without(turns, vertex))

    def test_between_any_two(self):
        for turns in thick_drawings(12, 2):
            for a, b in permutations(range(len(turns)), 2):
                self.check_path(turns, a, b)

    def test_by_any_two_edges_of_each_face(self):
        """Triangles and longer faces, begun anywhere; edges side by side and apart."""
        kinds = set()
        for turns in thick_drawings(12, 3):
            for k, face in enumerate(slow.faces(turns)):
                for edge, other in permutations(pairs_on(face), 2):
                    self.check_by(turns, made.shifted(face, k), edge, other)
                    kinds.add((len(face) > 3, bool(set(edge) & set(other))))
        self.assertEqual(kinds, {(False, True), (True, True), (True, False)})

    def test_as_great_as_the_bounds(self):
        dice = Random(4)
        lot = made.thick_maps(3, 16, 16, 4) + [made.drum(8), made.tent(14)]
        for turns in lot:
            self.assertEqual(len(turns), 16)
            self.assertIs(is_thick(slow.graph_in(turns)), True)
            self.check_round(turns, (), round_over(turns))
            for _ in range(6):
                vertex = dice.randrange(16)
                self.check_round(turns, (vertex,), round_without(turns, vertex))
                self.check_path(turns, *dice.sample(range(16), 2))
                face = dice.choice(slow.faces(turns))
                self.check_by(turns, face, *dice.sample(pairs_on(face), 2))
            face = max(slow.faces(turns), key=len)
            for edge, other in combinations(pairs_on(face), 2):
                self.check_by(turns, face, edge, other)

    def test_the_least(self):
        """Of connectivity 4 no drawing has fewer vertices than six."""
        self.check_round(CROWN, (), round_over(CROWN))
        for a in range(6):
            self.assertEqual(len(round_without(CROWN, a)), 5)


class Thick(DoorCase):

    def test_many_graphs(self):
        seen = set()
        for graph in made.many_graphs(9, 150, 5) + [slow.graph_in(turns) for turns in thick_drawings(5, 5)]:
            due = slow.thick(graph)
            self.assertIs(is_thick(graph), due)
            seen.add(due)
        self.assertEqual(seen, {True, False})

    def test_edges(self):
        for graph, due in (((), False), (((),), False), (made.complete(4), False), (FIVE, True), (made.complete(6), True),
                           (made.complete(16), True), (made.ring_graph(16), False), (((),) * 6, False),
                           (FIVE + ((),), False), (slow.made(6, set(combinations(range(6), 2)) - {(0, 1), (0, 2)}), False)):
            self.assertIs(is_thick(graph), due, graph)


class Errors(DoorCase):

    def test_vertices(self):
        for turns in (CROWN, FOUR, ODD, ((),), (), ((1,), (0,)), FIVE):
            n = len(turns)
            for a in (n, n + 3):
                self.raises(f"NoVertex({a})", path_over, turns, a, n + 9)
                self.raises(f"NoVertex({a})", path_over, turns, a, 0)
                self.raises(f"NoVertex({a})", round_without, turns, a)
                if n:
                    self.raises(f"NoVertex({a})", path_over, turns, 0, a)

    def test_faces_and_edges(self):
        for turns in (CROWN, made.drum(4), FOUR, ODD, ((1,), (0,))):
            graph = slow.graph_in(turns)
            for face in slow.faces(turns):
                near = pairs_on(face)
                far = sorted(slow.edges(graph) - set(near)) + [near[0][::-1], (0, 0), (0, len(turns)), (len(turns), 99)]
                for pair in far:
                    self.raises(f"NoEdge({pair})", round_over_by, turns, face, pair, near[0])
                    self.raises(f"NoEdge({pair})", round_over_by, turns, face, pair, pair)
                    self.raises(f"NoEdge({pair})", round_over_by, turns, face, near[0], pair)
                wrong = face[::-1] if len(face) > 2 else face + face
                for own in (wrong, face + (99,), face[1:], (0, 99), (99,), ()):
                    if not slow.is_face(turns, own):
                        self.raises(f"NoFace({own})", round_over_by, turns, own, (9, 9), near[0])

    def test_not_thick(self):
        """Behind the other errors: not PLANE, of several pieces, or of a lesser connectivity."""
        lot = [own.turns for own in made.plane_maps(50, 2, 9, 6)] + made.firm_maps(30, 4, 9, 6)
        bad = [turns for turns in lot if not slow.thick(slow.graph_in(turns))]
        self.assertGreater(len(bad), 40)
        for turns in bad + [ODD, ((1,), (0,)), CROWN + ((),), FIVE, made.complete(6)]:
            self.raises("CanNot()", round_over, turns)
            self.raises("CanNot()", path_over, turns, 0, 1)
            self.raises("CanNot()", round_without, turns, 1)
            for face in slow.faces(turns)[:3]:
                for edge, other in list(permutations(pairs_on(face), 2))[:2]:
                    self.raises("CanNot()", round_over_by, turns, face, edge, other)
        for turns in ((), ((),)):
            self.raises("CanNot()", round_over, turns)
        self.raises("CanNot()", round_without, ((),), 0)
        self.raises("NoEdge((0, 1))", round_over_by, ((),), (), (0, 1), (0, 2))

    def test_edges_must_be_unlike(self):
        self.raises("NoEdge((0, 1))", round_over_by, CROWN, (0, 1, 2), (0, 1), (0, 1))


class Judges(DoorCase):

    def test_rounds(self):
        seen = set()
        dice = Random(7)
        for graph in made.many_graphs(7, 60, 7) + [slow.graph_in(CROWN), made.complete(5), made.ring_graph(6)]:
            for gone in ((), tuple(range(len(graph))[:1]), tuple(sorted(dice.sample(range(len(graph)), len(graph) // 2)))):
                lot = [own for own in slow.cycles(graph) if len(own) >= len(graph) - len(gone) - 1] if len(graph) < 7 else []
                things = [made.shifted(own, 2) for own in lot[:6]] + [own[::-1] for own in lot[:4]]
                things += made.wrong(lot[0] if lot else (0, 1, 2), 40)
                seen |= self.judged(lambda x: is_round_over(graph, gone, x),
                                    lambda x: slow.is_round_over(graph, gone, x), things)
        self.assertEqual(seen, {True, False})

    def test_paths(self):
        seen = set()
        for graph in [own for own in made.many_graphs(6, 60, 8) if len(own) > 1] + [slow.graph_in(CROWN), ((1,), (0,))]:
            for a, b in ((0, 1), (len(graph) - 1, 0), (0, len(graph)), (99, 0)):
                lot = slow.all_paths(graph, a, b) if max(a, b) < len(graph) else []
                lot = sorted(lot, key=len)[::-1][:6]
                things = lot + [own[::-1] for own in lot] + made.wrong(lot[0] if lot else (0, 1), 40)
                seen |= self.judged(lambda x: is_path_over(graph, a, b, x),
                                    lambda x: slow.is_path_over(graph, a, b, x), things)
        self.assertEqual(seen, {True, False})

    def test_things_that_lack_one_condition(self):
        whole = slow.graph_in(CROWN)
        good = (0, 1, 2, 4, 3, 5)
        self.assertIs(is_round_over(whole, (), good), True)
        for thing in (list(good), good[:-1], good + (0,), (0, 1, 2, 4, 3, 3), (0, 1, 2, 5, 3, 4), (0, 1, 2, 4, 3, 6), (False,) + good[1:],
                      (0, True) + good[2:], (-6,) + good[1:], (), None, "012435", (good,), 0, [[good]]):
            self.assertIs(is_round_over(whole, (), thing), False, thing)
        self.assertIs(is_round_over(whole, (5,), good), False)
        self.assertIs(is_round_over(whole, (5,), good[:-1]), True)
        self.assertIs(is_round_over(whole, (0, 1, 2), (3, 4, 5)), True)
        self.assertIs(is_round_over(whole, (0, 1, 2, 3), (4, 5)), False)
        self.assertIs(is_round_over((), (), ()), False)
        line = (0, 1, 2, 5, 3, 4)
        self.assertIs(is_path_over(whole, 0, 4, line), True)
        for thing in (list(line), line[::-1], line[:-1], (0, 2, 1, 5, 3, 4), line + (4,), (0, 1, 2, 5, 4), (), None, (False,) + line[1:],
                      (0, 1, 2, 5, 3, 3), (0, 1, 2, 5, 3, 1, 4)):
            self.assertIs(is_path_over(whole, 0, 4, thing), False, thing)
        self.assertIs(is_path_over(whole, 0, 3, line), False)
        self.assertIs(is_path_over(whole, 1, 4, line), False)
        self.assertIs(is_path_over(((1,), (0,)), 1, 0, (1, 0)), True)

    def test_forty_vertices(self):
        ring = made.ring_graph(40)
        over = made.shifted(tuple(range(40)), 17)
        self.assertIs(is_round_over(ring, (), over), True)
        self.assertIs(is_round_over(ring, (0,), over[1:]), False)
        self.assertIs(is_path_over(ring, 17, 16, over), True)
        self.assertIs(is_path_over(ring, 17, 15, over), False)
        turns = made.drum(20)
        graph = slow.graph_in(turns)
        there = tuple(range(20)) + (20,) + tuple(range(39, 20, -1))
        for thing, due in ((there, slow.is_round_over(graph, (), there)), (there[::-1], slow.is_round_over(graph, (), there)),
                           (there[:-1], False)):
            self.assertIs(is_round_over(graph, (), thing), due)
        self.assertTrue(slow.is_path_over(graph, 0, 21, there))
        self.assertIs(is_path_over(graph, 0, 21, there), True)
        self.assertIs(is_round_over(graph, tuple(range(20)), tuple(range(20, 40))), True)
