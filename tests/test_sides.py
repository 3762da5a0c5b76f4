"""Point [7]: sides.py."""

from itertools import combinations
from random import Random

from tests import made, slow
from tests.doors import DoorCase
from threefeet.sides import alternate, arc, common, counts_left, edges_round, faces_left, inside, sides

FOUR = ((1, 2, 3), (0, 3, 2), (0, 1, 3), (0, 2, 1))


def each_cycle(lot, most, seed):
    """Some cycles of each drawing, either way round, begun anywhere."""
    dice = Random(seed)
    for own in lot:
        rounds = slow.cycles(own.graph)
        for cycle in dice.sample(rounds, min(most, len(rounds))):
            cycle = made.shifted(cycle, dice.randrange(9))
            yield own, cycle
            yield own, cycle[::-1]


def slow_faces_left(turns, cycle):
    """The least lot of faces that has the darts of cycle and goes on over all other edges."""
    used = {frozenset(dart) for dart in slow.darts(cycle)}
    lot = {slow.face(turns, a, b) for a, b in slow.darts(cycle)}
    size = 0
    while size < len(lot):
        size = len(lot)
        for a in range(len(turns)):
            for b in turns[a]:
                if frozenset((a, b)) not in used and slow.face(turns, b, a) in lot:
                    lot.add(slow.face(turns, a, b))
    return tuple(sorted(lot))


class Sides(DoorCase):

    def test_by_the_points_in_the_plane(self):
        asked = 0
        for own, cycle in each_cycle(made.plane_maps(120, 3, 10, 1), 6, 1):
            off = [a for a in range(len(own.graph)) if a not in cycle]
            left = tuple(a for a in off if own.is_left(cycle, [2 * x for x in own.spots[a]]))
            self.same(sides(own.turns, cycle), (left, tuple(a for a in off if a not in left)))
            self.check_counts(own, cycle, left)
            asked += 1
        self.assertGreater(asked, 400)

    def check_counts(self, own, cycle, left):
        used = {frozenset(dart) for dart in slow.darts(cycle)}
        edges = 0
        for a, b in own.pairs:
            middle = [own.spots[a][k] + own.spots[b][k] for k in (0, 1)]
            if frozenset((a, b)) not in used and own.is_left(cycle, middle):
                edges += 1
        vertices, between, many = counts_left(own.turns, cycle)
        self.same((vertices, between), (len(left), edges))
        self.same(vertices - between + many, 1)

    def test_by_what_hangs_there(self):
        for own, cycle in each_cycle(made.plane_maps(60, 3, 8, 2), 5, 2):
            turns = made.begun_elsewhere(own.turns, len(cycle))
            left, right = sides(turns, cycle)
            self.same((left, right), slow.sides(own.turns, cycle))
            self.same(sides(turns, cycle[::-1]), (right, left))
            self.assertFalse([b for a in left for b in own.graph[a] if b in right])

    def test_faces_left(self):
        for own, cycle in each_cycle(made.plane_maps(40, 3, 8, 3), 4, 3):
            lot = faces_left(own.turns, cycle)
            self.same(lot, slow_faces_left(own.turns, cycle))
            back = faces_left(own.turns, cycle[::-1])
            self.same(tuple(sorted(lot + back)), slow.faces(own.turns))
            self.same(counts_left(own.turns, cycle)[2], len(lot))

    def test_inside(self):
        for own in made.plane_maps(60, 4, 9, 4):
            if slow.whole(own.graph):
                self.check_inside(own)

    def check_inside(self, own):
        rounds = Random(4).sample(slow.cycles(own.graph), min(8, len(slow.cycles(own.graph))))
        for k, rim in enumerate(slow.faces(own.turns)):
            disc = (own.turns, made.shifted(rim, k))
            for cycle in rounds:
                for line in (cycle, cycle[::-1]):
                    left, right = slow.sides(own.turns, line)
                    due = right if rim in slow_faces_left(own.turns, line) else left
                    self.same(inside(disc, line), due)
                    if rim == own.outside():
                        self.same(due, tuple(a for a in range(len(own.graph)) if a not in line
                                             and own.holds(line, [2 * x for x in own.spots[a]])))
            self.same(inside(disc, rim), tuple(a for a in range(len(own.graph)) if a not in rim))

    def test_as_great_as_the_bounds(self):
        own = made.Map(5, 40, 114, True)
        cycle = own.outside()
        left, right = sides(own.turns, cycle)
        self.same(sorted((left, right)), [(), tuple(a for a in range(40) if a not in cycle)])
        self.same(sorted(counts_left(own.turns, line) for line in (cycle, cycle[::-1])), [(0, 0, 1), (37, 111, 75)])
        self.same(inside((own.turns, cycle), cycle), tuple(range(3, 40)))


class Arcs(DoorCase):

    def test_arc(self):
        self.same(arc((4, 7, 1, 9), 7, 9), (7, 1, 9))
        self.same(arc((4, 7, 1, 9), 9, 7), (9, 4, 7))
        self.same(arc((4, 7, 1, 9), 1, 7), (1, 9, 4, 7))
        self.same(arc((4, 7, 1, 9), 4, 9), (4, 7, 1, 9))
        self.same(arc((4, 7, 1, 9), 1, 1), (1,))
        self.same(arc((5,), 5, 5), (5,))
        self.same(arc((5, 2), 2, 5), (2, 5))
        self.raises("NoVertex(3)", arc, (4, 7, 1, 9), 3, 8)
        self.raises("NoVertex(8)", arc, (4, 7, 1, 9), 4, 8)
        self.raises("NoVertex(0)", arc, (), 0, 0)

    def test_arc_step_by_step(self):
        for n in range(1, 7):
            row = tuple(Random(n).sample(range(20), n))
            for a in row:
                for b in row:
                    line = [a]
                    while line[-1] != b:
                        line.append(row[(row.index(line[-1]) + 1) % n])
                    self.same(arc(row, a, b), tuple(line))

    def test_alternate(self):
        row = (3, 8, 5, 0, 7)
        for a in row:
            for b in row:
                for c in row:
                    for d in row:
                        order = [k for k in row[row.index(a):] + row[:row.index(a)] if k in (a, b, c, d)]
                        due = len({a, b, c, d}) == 4 and order[2] == b
                        self.assertIs(alternate(row, a, b, c, d), due)
        self.raises("NoVertex(9)", alternate, row, 3, 9, 2, 1)
        self.raises("NoVertex(1)", alternate, row, 1, 9, 2, 1)
        self.raises("NoVertex(2)", alternate, row, 3, 3, 2, 1)
        self.raises("NoVertex(1)", alternate, row, 3, 3, 3, 1)

    def test_paths_of_a_disc_that_alternate_meet(self):
        dice = Random(6)
        for turns, rim in made.discs(12, 4, 8, 6)[:60]:
            graph = slow.graph_in(turns)
            if len(rim) > 3:
                four = dice.sample(rim, 4)
                a, c, b, d = made.shifted(tuple(k for k in rim if k in four), dice.randrange(4))
                self.assertIs(alternate(rim, a, b, c, d), True)
                self.assertIs(alternate(rim, a, c, b, d), False)
                for one in slow.all_paths(graph, a, b)[:20]:
                    for two in slow.all_paths(graph, c, d)[:20]:
                        self.assertTrue(common(one, two))

    def test_common(self):
        self.same(common((5, 1, 3), (3, 9, 5)), (3, 5))
        self.same(common((5,), (3, 9)), ())
        self.same(common((2, 0, 1), (1, 2, 0)), (0, 1, 2))


class Round(DoorCase):

    def test_edges_round(self):
        dice = Random(7)
        for own in made.plane_maps(60, 1, 8, 7):
            every = slow.faces(own.turns)
            for many in range(len(every) + 1):
                lot = dice.sample(every, many)
                self.check_round(own, lot)
            self.same(edges_round(own.turns, every), ())

    def check_round(self, own, lot):
        held = [dart for face in lot for dart in (slow.darts(face) if face else [])]
        due = {edge for edge in slow.edges(own.graph) if (edge in held) != (edge[::-1] in held)}
        passed = tuple(made.shifted(face, k) for k, face in enumerate(lot + lot[:2]))
        got = edges_round(own.turns, passed)
        self.same(got, tuple(sorted(due)))
        for a in range(len(own.graph)):
            self.assertEqual(sum(1 for edge in got if a in edge) % 2, 0)

    def test_at_the_edges(self):
        self.same(edges_round(FOUR, ()), ())
        self.same(edges_round(((),), ((),)), ())
        tree = ((1,), (0, 2, 3), (1,), (1,))
        self.same(edges_round(tree, ((1, 2, 1, 3, 1, 0),)), ())
        self.same(edges_round(FOUR, ((3, 0, 1), (0, 1, 3))), ((0, 1), (0, 3), (1, 3)))

    def test_no_face(self):
        self.raises("NoFace((0, 3, 1))", edges_round, FOUR, ((1, 3, 0), (0, 3, 1), (9,)))
        self.raises("NoFace(())", edges_round, FOUR, ((),))
        self.raises("NoFace((7, 8))", edges_round, FOUR, ((7, 8),))
