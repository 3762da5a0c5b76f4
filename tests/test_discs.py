"""Point [10]: discs.py."""

from itertools import combinations
from random import Random

from tests import made, slow
from tests.doors import DoorCase
from threefeet.cuts import blocks
from threefeet.discs import (
    block_disc, disc_of, is_disc, is_solid, less_edge, less_vertex, next_on_rim, outer_arcs, rim_edges, soft_cuts,
    with_hub)

WHEEL = (((1, 4, 3), (0, 2, 4), (1, 3, 4), (0, 4, 2), (0, 1, 2, 3)), (0, 1, 2, 3))
CONE = ((1, 2, 3), (0, 3, 2), (0, 1, 3), (0, 2, 1))
SQUARE = (((1, 3), (0, 2), (1, 3), (0, 2)), (0, 1, 2, 3))
SOFT = (((1, 4, 3), (0, 2), (1, 3, 4), (0, 2), (0, 2)), (0, 1, 2, 3))


def hub_of(disc):
    """A vertex more on the outside, joined to the whole rim."""
    turns, rim = disc
    n = len(turns)
    rows = list(turns)
    for a, b in slow.darts(rim):
        at = rows[b].index(a) + 1
        rows[b] = rows[b][:at] + (n,) + rows[b][at:]
    return slow.begun(tuple(rows) + (rim[::-1],))


def alone_of(turns, kept):
    place = {a: k for k, a in enumerate(kept)}
    return slow.begun(tuple(tuple(place[b] for b in turns[a] if b in place) for a in kept))


def rim_where(turns, block, spots):
    """The darts round the one region of block in which all spots lie; None if there are two."""
    region = {own: {own} for own in slow.faces(turns)}
    for a in range(len(turns)):
        for b in turns[a]:
            if a not in block or b not in block:
                one, two = region[slow.face(turns, a, b)], region[slow.face(turns, b, a)]
                if one is not two:
                    one |= two
                    for own in two:
                        region[own] = one
    found = [region[slow.face(turns, a, turns[a][0])] for a in spots]
    if any(own is not found[0] for own in found):
        return None
    return {(a, b) for a in block for b in turns[a] if b in block and slow.face(turns, a, b) in found[0]}


def named_darts(rim, names):
    return {(names[a], names[b]) for a, b in slow.darts(rim)}


def solid_discs(many, least, most, seed):
    return [disc for disc in made.discs(many, least, most, seed) if not slow.soft(disc)]


class Judge(DoorCase):

    def test_is_disc(self):
        seen = set()
        for disc in made.discs(14, 3, 6, 1)[::3] + [WHEEL, SQUARE, SOFT]:
            things = made.wrong(disc, 200) + [disc]
            seen |= self.judged(is_disc, slow.is_disc, things)
        self.assertEqual(seen, {True, False})

    def test_each_face_of_a_drawing(self):
        for own in made.plane_maps(60, 1, 8, 2):
            due = slow.whole(own.graph) and len(own.graph) > 2
            for k, rim in enumerate(slow.faces(own.turns)):
                thing = (own.turns, made.shifted(rim, k))
                self.assertIs(is_disc(thing), due)
                self.assertIs(slow.is_disc(thing), due)
                self.assertIs(is_disc((made.begun_elsewhere(own.turns, 1), rim)), due)

    def test_things_that_lack_one_condition(self):
        ring = ((1, 2), (0, 2), (0, 1))
        self.assertIs(is_disc((ring, (0, 1, 2))), True)
        self.assertIs(is_disc((ring, (2, 1, 0))), True)
        odd = ((1, 2, 3), (0, 2, 3), (0, 1, 3), (0, 1, 2))
        bow = ((1, 2, 3, 4), (0, 2), (0, 1), (0, 4), (0, 3))
        for thing in ((ring, (0, 1)), (ring, ()), (ring,), (ring, (0, 1, 2), ()), [ring, (0, 1, 2)], (list(ring), (0, 1, 2)),
                      (ring, [0, 1, 2]), (ring, (0, True, 2)), (ring, (0, 1, 2, 0, 1, 2)), (ring, (0, 1, 9)), (ring, (9, 1, 2)),
                      (ring, None), (ring, 3), (ring, ((0,), 1, 2)), (odd, (0, 1, 2, 3)), (odd, (0, 1, 3)), (bow, (1, 0, 2)),
                      (((1,), (0,)), (0, 1)), (((),), ()), ((), ()), (((1,), (0, 2), (1,)), (0, 1, 2, 1)), (CONE, (0, 3, 1))):
            self.assertIs(is_disc(thing), False, thing)


class Discs(DoorCase):

    def test_disc_of(self):
        for own in made.plane_maps(60, 1, 8, 3):
            good = slow.whole(own.graph) and len(own.graph) > 2
            for k, rim in enumerate(slow.faces(own.turns)):
                face, turns = made.shifted(rim, k), made.begun_elsewhere(own.turns, k)
                if good:
                    self.same(disc_of(turns, face), (own.turns, rim))
                else:
                    self.raises("CanNot()", disc_of, turns, face)
                if not slow.is_face(turns, face[::-1]):
                    self.raises(f"NoFace({face[::-1]})", disc_of, turns, face[::-1])
        self.raises("NoFace((0, 9))", disc_of, ((1,), (0,)), (0, 9))
        self.raises("CanNot()", disc_of, ((1,), (0,)), (1, 0))
        self.raises("CanNot()", disc_of, ((),), ())

    def test_rim(self):
        for turns, rim in made.discs(30, 3, 8, 4):
            due = tuple(sorted(tuple(sorted(dart)) for dart in slow.darts(rim)))
            self.same(rim_edges((turns, rim)), due)
            for a, b in slow.darts(rim):
                self.same(next_on_rim((turns, rim), a), b)
            for a in range(len(turns) + 2):
                if a not in rim:
                    self.raises(f"NoVertex({a})", next_on_rim, (turns, rim), a)

    def test_solid_and_soft(self):
        seen = set()
        for disc in made.discs(40, 3, 8, 5):
            due = slow.soft(disc)
            self.same(soft_cuts(disc), due)
            self.assertIs(is_solid(disc), not due)
            self.assertIs(slow.firm(slow.graph_in(hub_of(disc))), not due)
            seen.add(not due)
        self.assertEqual(seen, {True, False})
        self.same(soft_cuts(SQUARE), ())
        self.assertIs(is_solid(SOFT), False)

    def test_with_hub(self):
        for disc in made.discs(30, 3, 8, 6):
            got = with_hub(disc)
            self.same(got, hub_of(disc))
            self.assertTrue(slow.is_plane(got))

    def test_as_great_as_the_bounds(self):
        turns = made.Map(3, 20, 60, True).turns
        rim = slow.faces(turns)[-1]
        disc = (turns, made.shifted(rim, 2))
        self.same((is_disc(disc), is_solid(disc), soft_cuts(disc)), (True, True, ()))
        ring = made.ring_graph(20)
        wide = (ring, tuple(range(20)))
        self.same(is_disc(wide), True)
        self.same((is_solid(wide), soft_cuts(wide)), (True, ()))
        self.check_less(turns)
        big = made.Map(5, 40, 114, True)
        disc = (big.turns, big.outside())
        self.same((is_disc(disc), len(rim_edges(disc)), len(with_hub(disc))), (True, 3, 41))
        self.same(outer_arcs((made.ring_graph(40), tuple(range(40))), (0, 39)), (tuple(range(40)), (39, 0)))

    def check_less(self, turns):
        for vertex in range(len(turns)):
            self.check_less_vertex(turns, vertex)
        for edge in sorted(slow.edges(slow.graph_in(turns))):
            self.check_less_edge(turns, edge)

    def check_less_vertex(self, turns, vertex):
        names, (own, rim) = less_vertex(turns, vertex)
        kept = tuple(a for a in range(len(turns)) if a != vertex)
        self.same((names, own), (kept, alone_of(turns, kept)))
        around = {(a, b) for a in kept for b in turns[a] if b != vertex and vertex in slow.face(turns, a, b)}
        self.assertEqual(named_darts(rim, kept), around)
        self.check_returned((own, rim))

    def check_less_edge(self, turns, edge):
        own, rim = less_edge(turns, edge)
        self.same(own, made.dropped(turns, edge))
        a, b = edge
        both = set(slow.walk_face(turns, a, b) + slow.walk_face(turns, b, a)) - {(a, b), (b, a)}
        self.assertEqual(set(slow.darts(rim)), both)
        self.check_returned((own, rim))

    def check_returned(self, disc):
        self.assertTrue(slow.is_disc(disc))
        self.assertFalse(slow.soft(disc))
        self.same(disc, (slow.begun(disc[0]), slow.from_least(disc[1])))

    def test_less_vertex_and_less_edge(self):
        for k, turns in enumerate(made.firm_maps(20, 4, 9, 7)):
            self.check_less(made.begun_elsewhere(turns, k))

    def test_less_of_what_is_not_firm(self):
        for own in made.plane_maps(40, 1, 7, 8):
            if not slow.firm(own.graph):
                for a in range(len(own.graph)):
                    self.raises("CanNot()", less_vertex, own.turns, a)
                for edge in slow.edges(own.graph):
                    self.raises("CanNot()", less_edge, own.turns, edge)
                self.raises(f"NoVertex({len(own.graph)})", less_vertex, own.turns, len(own.graph))
                self.raises("NoEdge((1, 0))", less_edge, own.turns, (1, 0))
        self.raises("NoVertex(4)", less_vertex, CONE, 4)
        self.raises("NoEdge((0, 4))", less_edge, CONE, (0, 4))
        self.raises("NoEdge((2, 1))", less_edge, CONE, (2, 1))
        self.raises("NoEdge((0, 2))", less_edge, WHEEL[0], (0, 2))
        self.raises("CanNot()", less_edge, SQUARE[0], (0, 1))


class Alone(DoorCase):

    def test_block_disc(self):
        dice = Random(9)
        seen = set()
        for turns, rim in made.discs(30, 4, 9, 9):
            disc = (made.begun_elsewhere(turns, 1), rim)
            for many in (0, 1, 2, 3):
                gone = tuple(sorted(dice.sample(range(len(turns)), min(many, len(turns)))))
                left = slow.made(len(turns), [edge for edge in slow.edges(slow.graph_in(turns))
                                              if not set(edge) & set(gone)])
                for block in blocks(left):
                    if len(block) > 2:
                        seen.add(self.check_block(disc, gone, block))
        self.assertEqual(seen, {True, False})

    def check_block(self, disc, gone, block):
        n = len(disc[0])
        around = rim_where(hub_of(disc), block, [a for a in range(n + 1) if a not in block])
        if around is None:
            self.raises("CanNot()", block_disc, disc, gone, block)
            return False
        names, (own, rim) = block_disc(disc, gone, block)
        self.same((names, own), (block, alone_of(disc[0], block)))
        self.assertEqual(named_darts(rim, block), around)
        self.assertTrue(slow.is_disc((own, rim)))
        self.same(rim, slow.from_least(rim))
        return True

    def test_by_the_points_in_the_plane(self):
        """What the outer face of the drawing is, is the rim, whatever is taken out along the rim."""
        for own in made.plane_maps(60, 4, 9, 10):
            if not slow.whole(own.graph):
                continue
            disc = (own.turns, own.outside())
            for path in self.along(disc[1]):
                gone = tuple(sorted(path))
                left = slow.made(len(own.graph), [edge for edge in own.pairs if not set(edge) & set(path)])
                for block in blocks(left):
                    if len(block) > 2:
                        _, (turns, rim) = block_disc(disc, gone, block)
                        self.assertLess(own.area(tuple(block[a] for a in rim)), 0)

    def along(self, rim):
        return [made.shifted(rim, k)[:many] for k in range(len(rim)) for many in range(len(rim))]

    def test_paths_along_the_rim(self):
        for disc in made.discs(20, 4, 8, 11):
            graph = slow.graph_in(disc[0])
            solid = not slow.soft(disc)
            for path in self.along(disc[1]):
                left = slow.made(len(graph), [edge for edge in slow.edges(graph) if not set(edge) & set(path)])
                for block in blocks(left):
                    if len(block) > 2:
                        _, own = block_disc(disc, tuple(sorted(path)), block)
                        self.assertTrue(slow.is_disc(own))
                        if solid:
                            self.assertFalse(slow.soft(own))

    def test_the_whole_disc(self):
        for turns, rim in made.discs(20, 3, 8, 12):
            every = tuple(range(len(turns)))
            self.same(block_disc((turns, rim), (), every), (every, (slow.begun(turns), slow.from_least(rim))))


class Arcs(DoorCase):

    def test_outer_arcs(self):
        for turns, rim in made.discs(16, 3, 8, 13):
            for many in range(len(rim) + 1):
                for own in combinations(sorted(rim), many):
                    self.check_arcs((turns, rim), own)

    def check_arcs(self, disc, vertices):
        rim = disc[1]
        due = []
        if vertices:
            row = made.shifted(rim, rim.index(vertices[0]))
            line = [row[0]]
            for a in row[1:]:
                line.append(a)
                if a in vertices:
                    due.append(tuple(line))
                    line = [a]
            due.append(tuple(line) + (row[0],) if len(vertices) > 1 else tuple(line))
        self.same(outer_arcs(disc, vertices), tuple(due))

    def test_no_vertex(self):
        self.raises("NoVertex(4)", outer_arcs, WHEEL, (0, 4, 9))
        self.raises("NoVertex(9)", outer_arcs, WHEEL, (0, 9))
        self.raises("NoVertex(4)", outer_arcs, WHEEL, (4,))
        self.same(outer_arcs(WHEEL, ()), ())
