"""Point [4]: graphs.py."""

from itertools import combinations

from tests import made, slow
from tests.doors import DoorCase
from threefeet.graphs import (
    drawn_together, edges_of, graph_of, is_cycle, is_graph, is_path, pieces, shortest_path, taken_out, with_edges,
    without_edges)


class Judges(DoorCase):

    def test_is_graph(self):
        seen = set()
        for graph in made.many_graphs(7, 40):
            self.assertIs(is_graph(graph), True)
            seen |= self.judged(is_graph, slow.is_graph, made.wrong(graph, 150))
        self.assertEqual(seen, {True, False})

    def test_is_graph_of_rows_that_lack_one_condition(self):
        for thing in (((1,), ()), ((1, 1), (0, 0)), ((0,),), ((0, 1), (0, 1)), ((2, 1), (0,), (0,)), ((1,), (0,), 2),
                      ((1,), (0, 2)), ((True,), (0,)), ((1,), (False,)), ([1], (0,)), [(1,), (0,)], (((1,),), (0,))):
            self.assertIs(is_graph(thing), False, thing)
        self.assertIs(is_graph(()), True)
        self.assertIs(is_graph(((),)), True)

    def test_is_graph_of_however_many_vertices(self):
        size = 5000
        self.assertTrue(is_graph(made.ring_graph(size)))
        star = (tuple(range(1, size)),) + ((0,),) * (size - 1)
        self.assertTrue(is_graph(star))
        self.assertFalse(is_graph(star[:-1] + ((1,),)))
        self.assertFalse(is_graph(((),) * 99 + ((0,),)))

    def test_is_path_and_is_cycle(self):
        paths, rounds = set(), set()
        for graph in made.many_graphs(6, 60, 1):
            lines = [path for b in range(len(graph)) for path in slow.all_paths(graph, 0, b)[:4]]
            lines += slow.cycles(graph)[:5]
            for line in lines:
                things = made.wrong(line, 120) + [line]
                paths |= self.judged(lambda thing: is_path(graph, thing), lambda x: slow.is_path(graph, x), things)
                rounds |= self.judged(lambda thing: is_cycle(graph, thing), lambda x: slow.is_cycle(graph, x), things)
        self.assertEqual((paths, rounds), ({True, False}, {True, False}))

    def test_lines_of_one_and_two_vertices(self):
        graph = ((1,), (0,), ())
        self.assertIs(is_path(graph, (2,)), True)
        self.assertIs(is_path(graph, (1, 0)), True)
        self.assertIs(is_path(graph, (0, 2)), False)
        self.assertIs(is_path(graph, ()), False)
        self.assertIs(is_cycle(graph, ()), False)
        self.assertIs(is_cycle(graph, (2,)), False)
        self.assertIs(is_cycle(graph, (0, 1)), False)
        self.assertIs(is_path((), (0,)), False)
        self.assertIs(is_path(graph, (True, 0)), False)
        self.assertIs(is_path(graph, (-1,)), False)


class Makers(DoorCase):

    def test_graph_of_and_edges_of(self):
        for graph in made.many_graphs(9, 80, 2):
            edges = edges_of(graph)
            self.same(edges, tuple(sorted(slow.edges(graph))))
            self.same(graph_of(len(graph), edges), graph)
            turned = tuple(edge[::-1] for edge in edges[::-1]) + edges[:2]
            self.same(graph_of(len(graph), turned), graph)
        self.same(graph_of(0, ()), ())
        self.same(graph_of(2, ()), ((), ()))
        self.same(edges_of(()), ())

    def test_with_and_without_edges(self):
        for graph in made.many_graphs(7, 40, 3):
            n = len(graph)
            have = slow.edges(graph)
            for pair in combinations(range(n), 2):
                due = slow.made(n, have | {pair})
                self.same(with_edges(graph, (pair, pair[::-1])), due)
                if pair in have:
                    self.same(without_edges(graph, (pair[::-1], pair, pair)), slow.made(n, have - {pair}))
            self.same(with_edges(graph, ()), graph)
            self.same(without_edges(graph, ()), graph)
            self.same(without_edges(graph, tuple(sorted(have))), ((),) * n)

    def test_drawn_together(self):
        for graph in made.many_graphs(8, 60, 4):
            for edge in slow.edges(graph):
                got = drawn_together(graph, edge)
                self.same(got, slow.joined(graph, edge))
                self.assertTrue(slow.is_graph(got))
                self.assertEqual(len(slow.pieces(got)), len(slow.pieces(graph)))
        self.same(drawn_together(((1,), (0,)), (0, 1)), ((),))

    def test_taken_out(self):
        for graph in made.many_graphs(6, 40, 5):
            for many in range(len(graph) + 1):
                for members in combinations(range(len(graph)), many):
                    self.same(taken_out(graph, members), (members, slow.taken(graph, members)))
        self.same(taken_out((), ()), ((), ()))


class Ways(DoorCase):

    def test_pieces(self):
        for graph in made.many_graphs(7, 60, 6):
            for many in range(len(graph) + 1):
                for gone in combinations(range(len(graph)), many):
                    self.same(pieces(graph, gone), slow.pieces(graph, gone))
        self.same(pieces((), ()), ())
        self.same(pieces(((), ()), (0, 1)), ())
        self.same(pieces(((), ()), ()), ((0,), (1,)))

    def test_shortest_path(self):
        for graph in made.many_graphs(6, 40, 7):
            vertices = range(len(graph))
            for gone in [own for many in (0, 1, 2) for own in combinations(vertices, many)]:
                for a in vertices:
                    for b in vertices:
                        self.check_shortest(graph, a, b, gone)

    def check_shortest(self, graph, a, b, gone):
        lines = slow.all_paths(graph, a, b, gone)
        got = shortest_path(graph, a, b, gone)
        if not lines:
            self.assertIsNone(got)
        else:
            self.assertIn(got, lines)
            self.assertEqual(len(got), min(len(line) for line in lines))

    def test_shortest_path_at_its_edges(self):
        graph = ((1,), (0, 2), (1,), ())
        self.same(shortest_path(graph, 3, 3, ()), (3,))
        self.assertIsNone(shortest_path(graph, 3, 3, (3,)))
        self.assertIsNone(shortest_path(graph, 0, 2, (0,)))
        self.assertIsNone(shortest_path(graph, 0, 2, (2,)))
        self.assertIsNone(shortest_path(graph, 0, 2, (1,)))
        self.assertIsNone(shortest_path(graph, 0, 3, ()))

    def test_as_great_as_the_bounds(self):
        own = made.Map(5, 40, 114, True)
        self.assertEqual(len(own.pairs), 114)
        graph = own.graph
        self.same(graph_of(40, tuple(own.pairs)), graph)
        self.same(pieces(graph, (0, 1, 2)), slow.pieces(graph, (0, 1, 2)))
        ring = made.ring_graph(40)
        self.same(shortest_path(ring, 0, 19, ()), tuple(range(20)))
        self.same(shortest_path(ring, 0, 19, (7,)), (0,) + tuple(range(39, 18, -1)))
        self.assertTrue(is_cycle(ring, tuple(range(40))))
        self.same(pieces(made.ring_graph(60), (0, 30)), (tuple(range(1, 30)), tuple(range(31, 60))))


class Doors(DoorCase):

    def test_no_vertex(self):
        graph = ((1,), (0, 2), (1,))
        self.raises("NoVertex(3)", pieces, graph, (0, 3, 4))
        self.raises("NoVertex(7)", taken_out, graph, (7,))
        self.raises("NoVertex(0)", taken_out, (), (0, 1))
        self.raises("NoVertex(3)", shortest_path, graph, 3, 9, (5,))
        self.raises("NoVertex(9)", shortest_path, graph, 0, 9, (5,))
        self.raises("NoVertex(5)", shortest_path, graph, 0, 0, (0, 5, 6))
        self.raises("NoVertex(5)", shortest_path, graph, 0, 2, (1, 5))

    def test_no_edge(self):
        graph = ((1,), (0, 2), (1,))
        self.raises("NoEdge((0, 3))", graph_of, 3, ((1, 2), (0, 3), (5, 5)))
        self.raises("NoEdge((3, 0))", graph_of, 3, ((3, 0),))
        self.raises("NoEdge((0, 0))", graph_of, 0, ((0, 0),))
        self.raises("NoEdge((2, 2))", with_edges, graph, ((0, 2), (2, 2), (9, 9)))
        self.raises("NoEdge((4, 1))", with_edges, graph, ((4, 1),))
        self.raises("NoEdge((2, 0))", without_edges, graph, ((2, 1), (2, 0), (0, 0)))
        self.raises("NoEdge((1, 1))", without_edges, graph, ((1, 1),))
        self.raises("NoEdge((8, 1))", without_edges, graph, ((8, 1),))
        self.raises("NoEdge((1, 8))", without_edges, graph, ((1, 8),))
        self.raises("NoEdge((1, 0))", drawn_together, graph, (1, 0))
        self.raises("NoEdge((0, 2))", drawn_together, graph, (0, 2))
        self.raises("NoEdge((1, 1))", drawn_together, graph, (1, 1))
        self.raises("NoEdge((3, 4))", drawn_together, graph, (3, 4))
        self.raises("NoEdge((0, 1))", drawn_together, (), (0, 1))
