"""Point [11]: parts.py."""

from itertools import combinations
from random import Random

from tests import made, slow
from tests.doors import DoorCase
from threefeet.parts import (
    chords, feet_of, is_three_footed, is_way, parts, parts_on, rim_parts, way_fault, worst_part)

WHEEL = (((1, 4, 3), (0, 2, 4), (1, 3, 4), (0, 4, 2), (0, 1, 2, 3)), (0, 1, 2, 3))


def lines_in(graph, most, seed):
    """Some paths, of one vertex too, and some cycles, begun anywhere."""
    dice = Random(seed)
    found = []
    for _ in range(most if graph else 0):
        a, b = dice.randrange(len(graph)), dice.randrange(len(graph))
        lines = slow.all_paths(graph, a, b)
        found.extend(dice.sample(lines, min(1, len(lines))))
    rounds = slow.cycles(graph)
    for cycle in dice.sample(rounds, min(most, len(rounds))):
        cycle = made.shifted(cycle, dice.randrange(9))
        found.extend((cycle, cycle[::-1]))
    return found


class Parts(DoorCase):

    def test_parts(self):
        for k, graph in enumerate(made.many_graphs(8, 120, 1)):
            for line in lines_in(graph, 4, k):
                got = parts(graph, line)
                self.same(got, slow.parts(graph, line))
                self.check_guarantees(graph, line, got)
                for vertex in range(len(graph) + 1):
                    if vertex in line:
                        due = tuple(part for part in slow.parts(graph, line) if vertex in part[1])
                        self.same(parts_on(graph, line, vertex), due)
                    else:
                        self.raises(f"NoVertex({vertex})", parts_on, graph, line, vertex)

    def check_guarantees(self, graph, line, got):
        for a in range(len(graph)):
            self.assertEqual(sum(1 for part in got if a in part[0]), 0 if a in line else 1)
        for edge in slow.edges(graph):
            if not set(edge) <= set(line):
                self.assertEqual(sum(1 for part in got if set(edge) & set(part[0])), 1)
        least = min((len(part[1]) for part in got), default=9)
        firm = slow.connectivity(graph) if len(slow.pieces(graph)) == 1 else 0
        if len(slow.pieces(graph)) == 1:
            self.assertGreater(least, 0)
        if firm > 1 and len(line) > 1:
            self.assertGreater(least, 1)
        if firm > 2 and len(line) > 2:
            self.assertGreater(least, 2)

    def test_feet_of(self):
        for k, graph in enumerate(made.many_graphs(7, 60, 2)):
            for line in lines_in(graph, 3, k):
                off = [a for a in range(len(graph)) if a not in line]
                for many in range(len(off) + 1):
                    for members in combinations(off, many):
                        due = tuple(a for a in sorted(line) if set(graph[a]) & set(members))
                        self.same(feet_of(graph, line, members), due)

    def test_chords(self):
        for k, graph in enumerate(made.many_graphs(8, 80, 3)):
            for line in lines_in(graph, 4, k):
                due = {edge for edge in slow.edges(graph) if set(edge) <= set(line) and not slow.uses(line, edge)}
                self.same(chords(graph, line), tuple(sorted(due)))

    def test_at_the_edges(self):
        self.same(parts(((),), (0,)), ())
        self.same(parts(((), ()), (0,)), (((1,), ()),))
        self.same(parts(((1, 2), (0,), (0,)), (0,)), (((1,), (0,)), ((2,), (0,))))
        self.same(parts_on(((1, 2), (0,), (0,)), (1,), 1), (((0, 2), (1,)),))
        self.same((feet_of(((1,), (0,)), (0,), ()), chords(((1,), (0,)), (0,)), chords(((1,), (0,)), (0, 1))),
                  ((), (), ()))

    def test_as_great_as_the_bounds(self):
        own = made.Map(5, 40, 114, True)
        cycle = own.outside()
        self.same(parts(own.graph, cycle), ((tuple(range(3, 40)), (0, 1, 2)),))
        ring = made.ring_graph(40)
        self.same(parts(ring, (0,)), ((tuple(range(1, 40)), (0,)),))
        self.same(chords(ring, tuple(range(40))), ((0, 39),))


class Feet(DoorCase):

    def test_three_footed(self):
        seen = set()
        for k, disc in enumerate(made.discs(24, 3, 8, 4)):
            graph = slow.graph_in(disc[0])
            for line in lines_in(graph, 4, k):
                lot = slow.parts(graph, line)
                wrong = [part for part in lot if slow.is_too_much(disc, part)]
                self.same(rim_parts(disc, line), tuple(part for part in lot if set(part[0]) & set(disc[1])))
                self.same(worst_part(disc, line), wrong[0] if wrong else None)
                self.assertIs(is_three_footed(disc, line), not wrong)
                seen.add(not wrong)
        self.assertEqual(seen, {True, False})

    def test_three_feet_on_the_rim_and_off_it(self):
        kite = (((1, 2, 3), (0, 3, 2), (0, 1, 3), (0, 2, 1)), (0, 1, 3))
        self.same((rim_parts(kite, (0, 1, 3)), worst_part(kite, (0, 1, 3))), ((), None))
        self.same(rim_parts(kite, (0, 1, 2)), (((3,), (0, 1, 2)),))
        self.same(worst_part(kite, (0, 1, 2)), ((3,), (0, 1, 2)))
        self.assertIs(is_three_footed(kite, (0, 1)), True)
        self.same(worst_part(WHEEL, (0, 1, 2, 3)), ((4,), (0, 1, 2, 3)))


class Ways(DoorCase):

    def test_all_paths(self):
        """Each path from v to u, of many discs: by each rim edge."""
        seen = set()
        for disc in made.discs(10, 3, 7, 5)[::2]:
            graph = slow.graph_in(disc[0])
            edges = [tuple(sorted(dart)) for dart in slow.darts(disc[1])]
            for v in disc[1][:3]:
                for u in range(len(graph)):
                    if u != v:
                        for path in slow.all_paths(graph, v, u)[:40]:
                            for edge in edges:
                                seen.add(self.check_way(disc, v, edge, u, path))
        self.assertEqual(seen, {"edge", "feet", ""})

    def check_way(self, disc, v, edge, u, thing):
        due = slow.way_fault(disc, v, edge, u, thing)
        self.same(way_fault(disc, v, edge, u, thing), due)
        self.assertIs(is_way(disc, v, edge, u, thing), due == "")
        return due

    def test_wrong_things(self):
        seen = set()
        for k, disc in enumerate(made.discs(16, 4, 7, 6)[::3]):
            graph = slow.graph_in(disc[0])
            v, edge = disc[1][0], tuple(sorted(disc[1][1:3]))
            u = Random(k).choice([a for a in range(len(graph)) if a != v])
            for path in slow.all_paths(graph, v, u)[:12]:
                for thing in made.wrong(path, 80, k) + [path, path[::-1], list(path)]:
                    seen.add(self.check_way(disc, v, edge, u, thing))
        self.assertEqual(seen, {"path", "ends", "edge", "feet", ""})

    def test_faults_in_their_order(self):
        for thing in (None, 0, "", (), [], [0, 1, 4, 3, 2], (0, True, 4, 3, 2), (0, 1, 4, 3, 2, 2), (0, 9), (0, 2),
                      ((0, 1, 4, 3, 2),), (0, 1, 4, 3, 2, 1), (-1, 0)):
            self.same(way_fault(WHEEL, 0, (0, 1), 2, thing), "path")
            self.assertIs(is_way(WHEEL, 0, (0, 1), 2, thing), False)
        for thing in ((2, 3, 4, 1, 0), (0, 1), (1, 2), (0,), (2,), (4,)):
            self.same(way_fault(WHEEL, 0, (0, 1), 2, thing), "ends")
        self.same(way_fault(WHEEL, 0, (0, 1), 2, (0, 3, 2)), "edge")
        self.same(way_fault(WHEEL, 0, (2, 3), 2, (0, 3, 4, 1, 2)), "edge")
        self.same(way_fault(WHEEL, 0, (2, 3), 2, (0, 3, 2)), "feet")
        self.same(way_fault(WHEEL, 0, (0, 3), 2, (0, 3, 4, 1, 2)), "")

    def test_as_great_as_the_bounds(self):
        ring = (made.ring_graph(20), tuple(range(20)))
        path = tuple(range(20))
        self.same(way_fault(ring, 0, (3, 4), 19, path), "")
        self.same(way_fault(ring, 0, (0, 19), 19, path), "edge")
        self.same(way_fault(ring, 0, (0, 19), 5, (0,) + path[:4:-1]), "")
        turns = made.Map(3, 20, 60, True).turns
        disc = (turns, slow.face(turns, 0, turns[0][0]))
        for path in slow.all_paths(made.ring_graph(20), 0, 10) + [(0, b) for b in turns[0]]:
            if slow.is_path(slow.graph_in(turns), path):
                due = [part for part in slow.parts(slow.graph_in(turns), path) if slow.is_too_much(disc, part)]
                self.same(worst_part(disc, path), due[0] if due else None)
        line = (0, turns[0][0], [a for a in turns[turns[0][0]] if a not in disc[1]][0])
        self.same(len(worst_part(disc, line)[1]), 3)
