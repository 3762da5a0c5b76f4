"""Point [5]: cuts.py."""

from itertools import combinations

from tests import made, slow
from tests.doors import DoorCase
from threefeet.cuts import (
    block_chain, blocks, connectivity, cut_vertices, is_between, is_separator, least_cut_between, least_separator,
    separators, triples_with)


def least_of(graph, most):
    for many in range(most + 1):
        found = slow.separators(graph, many)
        if found:
            return found[0]
    return None


def less(graph, gone):
    return slow.made(len(graph), [edge for edge in slow.edges(graph) if not set(edge) & set(gone)])


def slow_chain(graph, gone, a, b):
    """By all paths from a to b: the blocks of their edges, and where each path comes in and leaves."""
    lot = slow.blocks(less(graph, gone))
    chains = set()
    for path in slow.all_paths(graph, a, b, gone):
        chain = []
        for c, d in zip(path, path[1:]):
            block = [own for own in lot if c in own and d in own][0]
            if chain and chain[-1][0] == block:
                chain[-1] = (block, chain[-1][1], d)
            else:
                chain.append((block, c, d))
        chains.add(tuple(chain))
    return chains


class Separators(DoorCase):

    def test_is_separator(self):
        for graph in made.many_graphs(7, 40):
            for many in range(len(graph) + 1):
                for own in combinations(range(len(graph)), many):
                    self.assertIs(is_separator(graph, own), len(slow.pieces(graph, own)) > 1)

    def test_separators_and_connectivity(self):
        for graph in made.many_graphs(8, 150, 1) + [made.complete(n) for n in range(8)]:
            for many in range(4):
                self.same(separators(graph, many), slow.separators(graph, many))
                self.same(least_separator(graph, many), least_of(graph, many))
            self.same(connectivity(graph), slow.connectivity(graph))
            for vertex in range(len(graph)):
                due = tuple(own for own in slow.separators(graph, 3) if vertex in own)
                self.same(triples_with(graph, vertex), due)

    def test_all_small_graphs(self):
        for graph in made.small_graphs(5):
            self.same(connectivity(graph), slow.connectivity(graph))
            self.same(blocks(graph), slow.blocks(graph))

    def test_at_the_edges(self):
        self.assertIs(is_separator((), ()), False)
        self.assertIs(is_separator(((),), ()), False)
        self.assertIs(is_separator(((), ()), ()), True)
        self.same(separators(((), ()), 0), ((),))
        self.same(separators(((1,), (0,)), 0), ())
        self.same(least_separator(((), ()), 0), ())
        self.same(least_separator(((1,), (0, 2), (1,)), 0), None)
        self.same([connectivity(made.complete(n)) for n in range(8)], [0, 0, 1, 2, 3, 4, 4, 4])
        self.same(connectivity(((), ())), 0)

    def test_as_great_as_the_bounds(self):
        ring = made.ring_graph(16)
        self.same((connectivity(ring), least_separator(ring, 3)), (2, (0, 2)))
        self.same(len(separators(ring, 3)), len(slow.separators(ring, 3)))
        self.same(connectivity(made.complete(16)), 4)
        graph = made.Map(3, 16, 48, True).graph
        self.same(separators(graph, 3), slow.separators(graph, 3))
        self.same(connectivity(graph), 3)
        self.same(least_cut_between(made.complete(16), 0, 15), None)
        self.same(connectivity(made.ring_graph(22)), 2)


class Blocks(DoorCase):

    def test_blocks(self):
        for graph in made.many_graphs(8, 150, 2):
            got = blocks(graph)
            self.same(got, slow.blocks(graph))
            for edge in slow.edges(graph):
                self.assertEqual(sum(1 for block in got if set(edge) <= set(block)), 1)
            for one, two in combinations(got, 2):
                self.assertLess(len(set(one) & set(two)), 2)
            due = tuple(a for a in range(len(graph)) if sum(1 for block in got if a in block) > 1)
            self.same(cut_vertices(graph), due)

    def test_at_the_edges(self):
        self.same(blocks(()), ())
        self.same(blocks(((),)), ())
        self.same(cut_vertices(((), ())), ())
        self.same(blocks(((1,), (0,), (), (4,), (3,))), ((0, 1), (3, 4)))
        star = slow.made(5, [(0, k) for k in range(1, 5)])
        self.same(blocks(star), ((0, 1), (0, 2), (0, 3), (0, 4)))
        self.same(cut_vertices(star), (0,))

    def test_as_great_as_the_bounds(self):
        line = slow.made(40, [(k, k + 1) for k in range(39)])
        self.same(blocks(line), tuple((k, k + 1) for k in range(39)))
        self.same(cut_vertices(line), tuple(range(1, 39)))
        self.same(block_chain(line, (), 39, 0), tuple(((k - 1, k), k, k - 1) for k in range(39, 0, -1)))
        ring = made.ring_graph(40)
        self.same(blocks(ring), (tuple(range(40)),))
        self.same(len(block_chain(ring, (7,), 8, 6)), 38)
        self.same(blocks(made.ring_graph(900)), (tuple(range(900)),))
        own = made.Map(5, 40, 114, True)
        self.same(blocks(own.graph), (tuple(range(40)),))

    def test_block_chain(self):
        for graph in made.many_graphs(6, 60, 3):
            vertices = range(len(graph))
            for gone in [own for many in (0, 1, 2) for own in combinations(vertices, many)]:
                left = [a for a in vertices if a not in gone]
                for a in left:
                    for b in left:
                        self.check_chain(graph, gone, a, b)

    def check_chain(self, graph, gone, a, b):
        chains = slow_chain(graph, gone, a, b)
        if not chains:
            self.raises("CanNot()", block_chain, graph, gone, a, b)
        else:
            self.assertEqual({block_chain(graph, gone, a, b)}, chains)


class Between(DoorCase):

    def test_is_between(self):
        for graph in made.many_graphs(6, 40, 4):
            vertices = range(len(graph))
            for own in [own for many in range(4) for own in combinations(vertices, many)]:
                for a in vertices:
                    for b in vertices:
                        due = a != b and a not in own and b not in own and not slow.all_paths(graph, a, b, own)
                        self.assertIs(is_between(graph, own, a, b), due)

    def test_least_cut_between(self):
        for graph in made.many_graphs(8, 60, 5):
            for a in range(len(graph)):
                for b in range(len(graph)):
                    self.check_least(graph, a, b)

    def check_least(self, graph, a, b):
        got = least_cut_between(graph, a, b)
        if a == b or b in graph[a]:
            self.assertIsNone(got)
            return
        most = self.most_paths(graph, a, b)
        if most > 3:
            self.assertIsNone(got)
            return
        self.assertTrue(slow.a_set(got))
        self.assertEqual(len(got), most)
        self.assertFalse({a, b} & set(got))
        self.assertFalse(slow.all_paths(graph, a, b, got))

    def most_paths(self, graph, a, b):
        """How many paths from a to b go apart, four at most, by trying them all."""
        inner = {frozenset(path[1:-1]) for path in slow.all_paths(graph, a, b)}
        inner = sorted((own for own in inner if not any(other < own for other in inner)), key=len)

        def most(gone, at, due):
            if due == 0 or at == len(inner):
                return 0
            best = 0
            for k in range(at, len(inner)):
                if not inner[k] & gone:
                    best = max(best, 1 + most(gone | inner[k], k + 1, due - 1))
                if best == due:
                    break
            return best
        return most(frozenset(), 0, 4)

    def test_at_the_edges(self):
        self.same(least_cut_between(((), ()), 0, 1), ())
        self.same(least_cut_between(((),), 0, 0), None)
        self.assertIs(is_between(((), ()), (), 0, 1), True)
        self.assertIs(is_between(((), ()), (), 0, 0), False)
        self.assertIs(is_between(((), (), ()), (0,), 0, 1), False)
        self.assertIs(is_between(((), (), ()), (1,), 0, 1), False)


class Doors(DoorCase):

    def test_no_vertex(self):
        graph = ((1,), (0, 2), (1,))
        self.raises("NoVertex(3)", is_separator, graph, (1, 3, 4))
        self.raises("NoVertex(3)", triples_with, graph, 3)
        self.raises("NoVertex(4)", is_between, graph, (0, 4), 5, 6)
        self.raises("NoVertex(5)", is_between, graph, (0,), 5, 6)
        self.raises("NoVertex(6)", is_between, graph, (0,), 0, 6)
        self.raises("NoVertex(5)", least_cut_between, graph, 5, 6)
        self.raises("NoVertex(6)", least_cut_between, graph, 1, 6)
        self.raises("NoVertex(0)", least_cut_between, (), 0, 0)
        self.raises("NoVertex(3)", block_chain, graph, (1, 3), 1, 9)
        self.raises("NoVertex(1)", block_chain, graph, (1,), 1, 9)
        self.raises("NoVertex(9)", block_chain, graph, (1,), 0, 9)
        self.raises("NoVertex(8)", block_chain, graph, (1,), 8, 9)
        self.raises("NoVertex(8)", block_chain, graph, (1,), 8, 1)
        self.raises("NoVertex(1)", block_chain, graph, (1,), 0, 1)
        self.raises("CanNot()", block_chain, graph, (1,), 0, 2)
