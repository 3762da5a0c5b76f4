"""Point [8]: drawings.py."""

from itertools import combinations
from random import Random

from tests import made, slow
from tests.doors import DoorCase
from threefeet.drawings import alike, can_draw, draw, is_drawing, is_join_row, join_row, may_join
from threefeet.forbidden import forbidden

FOUR = ((1, 2, 3), (0, 3, 2), (0, 1, 3), (0, 2, 1))
FIVE = made.complete(5)
THREE = made.complete_three()


def petersen():
    return slow.made(10, [(k, (k + 1) % 5) for k in range(5)] + [(k, k + 5) for k in range(5)]
                     + [(5 + k, 5 + (k + 2) % 5) for k in range(5)])


def beside(one, two):
    """Both graphs in one, as two lots of pieces."""
    n = len(one)
    return one + tuple(tuple(b + n for b in row) for row in two)


def divided(graph, edge, many):
    """graph with many vertices set on this edge."""
    n = len(graph)
    line = [edge[0]] + list(range(n, n + many)) + [edge[1]]
    return slow.made(n + many, (slow.edges(graph) - {edge}) | set(zip(line, line[1:])))


class Drawn(DoorCase):

    def test_one_paper_of_two(self):
        """A drawing or a FORBIDDEN, each judged by the test's own rules; never both."""
        seen = set()
        for graph in made.many_graphs(9, 250, 1) + made.many_graphs(16, 60, 2):
            got = can_draw(graph)
            self.assertIs(type(got), bool)
            if got:
                self.raises("NoPaper()", forbidden, graph)
                for piece in slow.pieces(graph):
                    self.check_draw(slow.taken(graph, piece))
            else:
                self.assertTrue(slow.is_forbidden(graph, forbidden(graph)))
                if len(slow.pieces(graph)) == 1:
                    self.raises("NoPaper()", draw, graph)
            if len(slow.pieces(graph)) != 1:
                self.raises("CanNot()", draw, graph)
            seen.add(got)
        self.assertEqual(seen, {True, False})

    def check_draw(self, graph):
        turns = draw(graph)
        self.assertTrue(slow.is_plane(turns))
        self.same(slow.graph_in(turns), graph)
        self.same(turns, slow.begun(turns))
        self.assertIs(is_drawing(graph, turns), True)

    def test_by_all_turns(self):
        for graph in made.many_graphs(6, 120, 3):
            if len(slow.edges(graph)) < 10:
                self.assertIs(can_draw(graph), slow.drawable(graph))
        self.assertIs(can_draw(THREE), slow.drawable(THREE))
        self.assertIs(can_draw(FIVE), slow.drawable(FIVE))

    def test_what_is_drawn_by_points_can_be_drawn(self):
        for own in made.maps(80, 1, 14, 4) + made.maps(10, 15, 20, 5, True, True):
            self.assertIs(can_draw(own.graph), True)
            if len(slow.pieces(own.graph)) == 1:
                self.check_draw(own.graph)

    def test_one_edge_too_many(self):
        """A drawing with all edges that fit, and one more."""
        for own in made.maps(12, 5, 12, 6, True, True):
            missing = [pair for pair in combinations(range(len(own.graph)), 2) if pair not in slow.edges(own.graph)]
            for pair in missing[:6]:
                graph = slow.made(len(own.graph), own.pairs + [pair])
                self.assertIs(can_draw(graph), False)
                self.raises("NoPaper()", draw, graph)

    def test_divided_edges(self):
        for graph in (FIVE, THREE, petersen()):
            for k, edge in enumerate(sorted(slow.edges(graph))[:6]):
                self.assertIs(can_draw(divided(graph, edge, k)), False)
                less = slow.made(len(graph), slow.edges(graph) - {edge})
                self.assertIs(can_draw(less), graph != petersen())

    def test_pieces_and_blocks(self):
        whole = made.complete(4)
        self.assertIs(can_draw(beside(whole, whole)), True)
        self.assertIs(can_draw(beside(whole, FIVE)), False)
        self.assertIs(can_draw(beside(THREE, whole)), False)
        self.raises("CanNot()", draw, beside(whole, FIVE))
        self.raises("CanNot()", draw, beside(whole, whole))
        chain = slow.made(10, list(slow.edges(whole)) + [(a + 3, b + 3) for a, b in slow.edges(whole)]
                          + [(a + 6, b + 6) for a, b in slow.edges(whole)])
        self.check_draw(chain)
        self.check_draw(slow.made(7, [(0, 1), (1, 2), (2, 0), (2, 3), (3, 4), (4, 5), (5, 3), (3, 6)]))

    def test_at_the_edges(self):
        self.assertIs(can_draw(()), True)
        self.assertIs(can_draw(((),)), True)
        self.assertIs(can_draw(((), ())), True)
        self.raises("CanNot()", draw, ())
        self.raises("CanNot()", draw, ((), ()))
        self.same(draw(((),)), ((),))
        self.same(draw(((1,), (0,))), ((1,), (0,)))
        self.same(draw(made.ring_graph(3)), ((1, 2), (0, 2), (0, 1)))

    def test_as_great_as_the_bounds(self):
        for seed in range(6):
            graph = made.Map(seed, 20, 60, seed % 2 == 0).graph
            self.check_draw(graph)
        self.check_draw(made.ring_graph(20))
        self.check_draw(slow.made(20, [(k, k + 1) for k in range(19)]))
        self.check_draw(slow.made(20, [(0, k) for k in range(1, 20)]))
        self.assertIs(can_draw(made.complete(15)), False)
        self.assertIs(can_draw(divided(THREE, (0, 3), 14)), False)
        self.check_draw(made.Map(3, 26, 78, True).graph)


class Judge(DoorCase):

    def test_is_drawing(self):
        seen = set()
        for own in made.plane_maps(60, 1, 6, 7):
            graph = own.graph
            things = made.wrong(own.turns, 120) + [made.begun_elsewhere(own.turns, 1), own.turns]
            seen |= self.judged(lambda thing: is_drawing(graph, thing),
                                lambda x: slow.is_plane(x) and slow.graph_in(x) == graph, things)
        self.assertEqual(seen, {True, False})

    def test_all_turns(self):
        for graph in (made.complete(4), made.ring_graph(4), slow.made(5, [(0, 1), (0, 2), (0, 3), (1, 2), (3, 4)])):
            for turns in slow.all_turns(graph):
                self.assertIs(is_drawing(graph, turns), slow.is_plane(turns))

    def test_at_the_edges(self):
        self.assertIs(is_drawing((), ()), False)
        self.assertIs(is_drawing(((), ()), ((), ())), False)
        self.assertIs(is_drawing(((),), ((),)), True)
        self.assertIs(is_drawing(made.complete(4), made.ring_graph(4)), False)
        size = 2000
        ring = made.ring_graph(size)
        self.assertIs(is_drawing(ring, ring), True)
        self.assertIs(is_drawing(ring, made.begun_elsewhere(ring, 1)), True)
        self.assertIs(is_drawing(ring, ring[:-1]), False)


class Joined(DoorCase):

    def test_may_join(self):
        seen = set()
        lot = made.many_graphs(8, 60, 8) + [slow.graph_in(own) for own in made.firm_maps(12, 4, 8, 8)]
        for graph in lot + [made.complete(n) for n in (4, 5, 6)]:
            firm = slow.firm(graph)
            for edge in slow.edges(graph):
                got = may_join(graph, edge)
                self.assertIs(got, firm and slow.firm(slow.joined(graph, edge)))
                seen.add(got)
        self.assertEqual(seen, {True, False})

    def test_join_row(self):
        lot = made.many_graphs(9, 150, 9) + [slow.graph_in(own) for own in made.firm_maps(20, 4, 12, 9)]
        firm = 0
        for graph in lot + [made.complete(n) for n in range(9)] + [THREE, petersen()]:
            if slow.firm(graph):
                row = join_row(graph)
                self.assertTrue(slow.is_join_row(graph, row))
                self.assertIs(is_join_row(graph, row), True)
                self.check_on_the_way(graph, row)
                firm += 1
            else:
                self.raises("CanNot()", join_row, graph)
        self.assertGreater(firm, 40)

    def check_on_the_way(self, graph, row):
        for edge in row:
            graph = slow.joined(graph, edge)
            self.assertTrue(slow.firm(graph))

    def test_is_join_row(self):
        seen = set()
        lot = [slow.graph_in(own) for own in made.firm_maps(10, 5, 8, 10)] + [FIVE, THREE, made.complete(6)]
        for graph in lot:
            row = join_row(graph)
            things = made.wrong(row, 150) + [row]
            seen |= self.judged(lambda thing: is_join_row(graph, thing),
                                lambda x: slow.is_join_row(graph, x), things)
        self.assertEqual(seen, {True, False})

    def test_all_rows_of_two(self):
        """Every row of two pairs, of graphs that are firm and that are not."""
        pairs = list(combinations(range(6), 2))
        rows = [(one, two) for one in pairs for two in pairs]
        for graph in made.many_graphs(6, 400, 11):
            if len(graph) == 6 and len(slow.edges(graph)) > 7:
                good = [row for row in rows if is_join_row(graph, row)]
                self.assertEqual(good, [row for row in rows if slow.is_join_row(graph, row)])
                self.assertIs(bool(good), slow.firm(graph))

    def test_at_the_edges(self):
        self.same(join_row(made.complete(4)), ())
        self.assertIs(is_join_row(made.complete(4), ()), True)
        self.assertIs(is_join_row(made.complete(4), []), False)
        for graph in ((), ((),), made.complete(3), made.ring_graph(4), slow.made(4, [(0, 1)])):
            self.assertIs(is_join_row(graph, ()), False)
            self.raises("CanNot()", join_row, graph)
        self.assertIs(is_join_row(FIVE, ((0, 1),)), True)
        for thing in (((1, 0),), ((True, 2),), ([0, 1],), [(0, 1)], ((0, 1, 2),), ((0, 5),), ((0, 1), (0, 1)), (0, 1)):
            self.assertIs(is_join_row(FIVE, thing), False, thing)
        self.assertIs(may_join(made.complete(4), (0, 1)), False)

    def test_as_great_as_the_bounds(self):
        for turns in made.firm_maps(4, 12, 12, 12):
            row = join_row(slow.graph_in(turns))
            self.assertEqual(len(row), 8)
            self.assertTrue(slow.is_join_row(slow.graph_in(turns), row))
        self.assertTrue(slow.is_join_row(made.complete(12), join_row(made.complete(12))))

    def test_no_edge(self):
        for edge in ((1, 0), (0, 0), (0, 5), (7, 8)):
            self.raises(f"NoEdge({edge})", may_join, FIVE, edge)
        self.raises("NoEdge((0, 2))", may_join, made.ring_graph(5), (0, 2))


class Alike(DoorCase):

    def test_drawings_of_firm_graphs_are_alike(self):
        for turns in made.firm_maps(30, 4, 12, 13):
            got = draw(slow.graph_in(turns))
            self.assertIs(alike(got, turns), True)
            self.assertIs(alike(made.begun_elsewhere(turns, 2), got), True)

    def test_alike(self):
        dice = Random(14)
        for own in made.plane_maps(60, 1, 8, 14):
            back = tuple(row[::-1] for row in made.begun_elsewhere(own.turns, 1))
            self.assertIs(alike(own.turns, back), True)
            self.assertIs(alike(own.turns, made.begun_elsewhere(own.turns, 3)), True)
            a = dice.randrange(len(own.turns))
            mixed = own.turns[:a] + (own.turns[a][::-1],) + own.turns[a + 1:]
            due = slow.begun(mixed) in (slow.begun(own.turns), slow.begun(back))
            self.assertIs(alike(own.turns, mixed), due)
        self.assertIs(alike(FOUR, FOUR[:2]), False)
        self.assertIs(alike((), ()), True)
        big = made.Map(5, 40, 114, True).turns
        self.assertIs(alike(big, tuple(row[::-1] for row in big)), True)
        self.assertIs(alike(big, made.dropped(big, (0, big[0][0]))), False)
