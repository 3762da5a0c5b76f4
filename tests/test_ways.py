"""Point [15]: ways.py."""

from random import Random

from tests import made, slow
from tests.doors import DoorCase
from threefeet.ways import way, way_by_each, way_in_face, way_round, way_to_each

THREE = (((1, 2), (0, 2), (0, 1)), (0, 1, 2))
YARD = (((1, 9, 5, 4), (0, 2, 7, 9), (1, 3, 7), (2, 4, 5, 8), (0, 3), (0, 6, 3), (5, 9, 8), (1, 2, 8), (3, 6, 7), (0, 1, 6)),
        (0, 1, 2, 3, 4))
KITE = (((1, 2, 3), (0, 3, 2), (0, 1, 3), (0, 2, 1)), (0, 1, 3))


def soft_discs(many, least, most, seed):
    return [disc for disc in made.thin_discs(4 * many, least, most, seed) if slow.soft(disc)][:many]


def is_three_footed(disc, line):
    return not any(slow.is_too_much(disc, part) for part in slow.parts(slow.graph_in(disc[0]), line))


class Ways(DoorCase):

    def check(self, disc, v, edge, u):
        got = way(disc, v, edge, u)
        self.assertEqual(slow.way_fault(disc, v, edge, u, got), "", (disc, v, edge, u))

    def test_every_ask_of_solid_discs(self):
        for disc in made.solid_discs(60, 3, 9, 1) + [YARD, THREE, KITE]:
            for v, edge, u in made.asks(disc):
                self.check(disc, v, edge, u)

    def test_every_ask_of_discs_that_are_not_solid(self):
        lot = soft_discs(40, 5, 10, 2)
        self.assertEqual(len(lot), 40)
        for disc in lot:
            for v, edge, u in made.asks(disc):
                self.check(disc, v, edge, u)

    def test_each_face_of_many_drawings(self):
        for disc in made.discs(30, 3, 7, 3)[::2]:
            for v, edge, u in Random(len(disc[1])).sample(made.asks(disc), 12):
                self.check(disc, v, edge, u)

    def test_as_great_as_the_bounds(self):
        dice = Random(4)
        lot = made.solid_discs(6, 19, 20, 4) + made.thin_discs(6, 20, 20, 4) + made.thin_discs(4, 14, 18, 5)
        for disc in lot + [(made.ring_graph(20), tuple(range(20)))]:
            asks = made.asks(disc)
            for v, edge, u in dice.sample(asks, min(len(asks), 25)):
                self.check(disc, v, edge, u)

    def test_a_disc_of_three_vertices(self):
        due = {(0, (0, 1), 1): (0, 1), (0, (0, 1), 2): (0, 1, 2), (0, (1, 2), 1): (0, 2, 1), (0, (1, 2), 2): (0, 1, 2),
               (0, (0, 2), 1): (0, 2, 1), (0, (0, 2), 2): (0, 2)}
        for (v, edge, u), path in due.items():
            self.same(way(THREE, v, edge, u), path)
            self.same(way((THREE[0], (2, 1, 0)), v, edge, u), path)

    def test_v_at_the_edge_and_y_that_is_u(self):
        self.same(way(KITE, 0, (0, 1), 1), (0, 1))
        many = 0
        for disc in made.solid_discs(20, 4, 8, 6):
            for v, edge, u in made.asks(disc):
                if v in edge and u in edge:
                    self.check(disc, v, edge, u)
                    many += 1
                if u in edge and v not in edge:
                    got = way(disc, v, edge, u)
                    self.assertEqual(set(got[-2:]), set(edge))
                if v in edge:
                    self.assertEqual(set(way(disc, v, edge, u)[:2]), set(edge))
        self.assertGreater(many, 50)

    def test_turns_begun_anywhere(self):
        for disc in made.solid_discs(10, 4, 8, 7):
            for k in range(3):
                own = (made.begun_elsewhere(disc[0], k), made.shifted(disc[1], k))
                for v, edge, u in Random(k).sample(made.asks(disc), 8):
                    self.check(own, v, edge, u)


class Many(DoorCase):

    def test_way_by_each(self):
        for disc in made.solid_discs(20, 3, 8, 8) + soft_discs(10, 5, 8, 8):
            rim = disc[1]
            for v in rim:
                row = made.shifted(rim, rim.index(v))
                for u in range(len(disc[0])):
                    if u != v:
                        got = way_by_each(disc, v, u)
                        self.assertEqual(len(got), len(rim))
                        for dart, path in zip(slow.darts(row), got):
                            self.assertEqual(slow.way_fault(disc, v, tuple(sorted(dart)), u, path), "")

    def test_way_to_each(self):
        for disc in made.solid_discs(20, 3, 8, 9) + soft_discs(10, 5, 8, 9):
            for v in disc[1]:
                for edge in made.rim_pairs(disc):
                    got = way_to_each(disc, v, edge)
                    others = [u for u in range(len(disc[0])) if u != v]
                    self.assertEqual(len(got), len(others))
                    for u, path in zip(others, got):
                        self.assertEqual(slow.way_fault(disc, v, edge, u, path), "")

    def test_way_in_face(self):
        for own in made.plane_maps(60, 3, 8, 10):
            good = slow.whole(own.graph)
            for k, rim in enumerate(slow.faces(own.turns)):
                face = made.shifted(rim, k)
                v, edge = face[0], tuple(sorted(face[:2]))
                for u in range(len(own.graph)):
                    if good and u != v:
                        got = way_in_face(own.turns, face, v, edge, u)
                        self.assertEqual(slow.way_fault((own.turns, rim), v, edge, u, got), "")
                if not good:
                    self.raises("CanNot()", way_in_face, own.turns, face, 99, (1, 0), 99)

    def test_way_round(self):
        for disc in made.solid_discs(40, 3, 9, 11) + soft_discs(15, 5, 9, 11):
            graph, rim = slow.graph_in(disc[0]), disc[1]
            for v, after in slow.darts(rim):
                for edge in made.rim_pairs(disc):
                    if set(edge) == {v, after}:
                        self.raises("CanNot()", way_round, disc, v, edge)
                    else:
                        got = way_round(disc, v, edge)
                        self.assertTrue(slow.is_cycle(graph, got))
                        self.assertIn(tuple(sorted((v, after))), slow.steps(got))
                        self.assertIn(edge, slow.steps(got))
                        self.assertTrue(is_three_footed(disc, got))

    def test_as_great_as_the_bounds(self):
        disc = made.solid_discs(1, 20, 20, 12)[0]
        v, edge = disc[1][0], made.rim_pairs(disc)[1]
        for u, path in zip([u for u in range(20) if u != v], way_to_each(disc, v, edge)):
            self.assertEqual(slow.way_fault(disc, v, edge, u, path), "")
        self.assertEqual(len(way_by_each(disc, v, disc[1][1])), len(disc[1]))
        self.assertTrue(is_three_footed(disc, way_round(disc, v, edge)))


class Doors(DoorCase):

    def test_errors_in_their_order(self):
        for disc in made.solid_discs(8, 4, 8, 13) + soft_discs(4, 5, 8, 13) + [THREE]:
            n, rim = len(disc[0]), disc[1]
            edge, wrong = made.rim_pairs(disc)[0], (rim[0], n)
            for v in [a for a in range(n) if a not in rim] + [n, n + 5]:
                self.raises(f"NoVertex({v})", way, disc, v, wrong, v)
                self.raises(f"NoVertex({v})", way_by_each, disc, v, v)
                self.raises(f"NoVertex({v})", way_to_each, disc, v, wrong)
                self.raises(f"NoVertex({v})", way_round, disc, v, wrong)
                self.raises(f"NoVertex({v})", way_in_face, disc[0], rim, v, wrong, v)
            inner = sorted(slow.edges(slow.graph_in(disc[0])) - set(made.rim_pairs(disc)))
            for pair in inner + [wrong, edge[::-1], (n, n)]:
                self.raises(f"NoEdge({pair})", way, disc, rim[0], pair, rim[0])
                self.raises(f"NoEdge({pair})", way_to_each, disc, rim[0], pair)
                self.raises(f"NoEdge({pair})", way_round, disc, rim[0], pair)
                self.raises(f"NoEdge({pair})", way_in_face, disc[0], rim, rim[0], pair, rim[0])
            for u in (rim[0], n, n + 7):
                self.raises(f"NoVertex({u})", way, disc, rim[0], edge, u)
                self.raises(f"NoVertex({u})", way_by_each, disc, rim[0], u)
                self.raises(f"NoVertex({u})", way_in_face, disc[0], rim, rim[0], edge, u)

    def test_no_face_and_no_disc_come_first(self):
        bow = ((1, 2, 3, 4), (0, 2), (0, 1), (0, 4), (0, 3))
        self.raises("NoFace((0, 3, 1))", way_in_face, KITE[0], (0, 3, 1), 9, (9, 9), 9)
        self.raises("NoFace(())", way_in_face, KITE[0], (), 9, (9, 9), 9)
        self.raises("NoFace((0, 9))", way_in_face, bow, (0, 9), 9, (9, 9), 9)
        self.raises("CanNot()", way_in_face, bow, (0, 2, 1), 9, (9, 9), 9)
        self.raises("CanNot()", way_in_face, ((1,), (0,)), (0, 1), 0, (0, 1), 1)
        self.raises("CanNot()", way_in_face, ((),), (), 0, (0, 1), 1)
        self.raises("NoVertex(2)", way_in_face, KITE[0], (0, 1, 3), 2, (0, 1), 1)
        self.raises("NoEdge((0, 2))", way_in_face, KITE[0], (0, 1, 3), 0, (0, 2), 0)
        self.raises("NoVertex(0)", way_in_face, KITE[0], (0, 1, 3), 0, (0, 3), 0)
