"""Point [14]: chains.py."""

from random import Random

from tests import made, slow
from tests.doors import DoorCase
from threefeet.chains import chain, chain_exit, hung_at, is_side, kept, side

STAR = (((1, 6, 5), (0, 2), (1, 3, 6), (2, 4), (3, 5, 6), (0, 4), (0, 2, 4)), (0, 1, 2, 3, 4, 5))
THREE = (((1, 2), (0, 2), (0, 1)), (0, 1, 2))


def lot_of_discs(many, seed):
    return made.thin_discs(many, 3, 9, seed) + made.solid_discs(many // 2, 3, 8, seed) + [STAR, THREE]


def chain_slowly(graph, gone, y, u):
    """The blocks through which each of the paths from y to u goes, first and last by where it comes in and goes out."""
    left = slow.made(len(graph), [own for own in slow.edges(graph) if not set(own) & set(gone)])
    path = slow.all_paths(left, y, u)[0]
    found = []
    for block in slow.blocks(left):
        at = [k for k, a in enumerate(path) if a in block]
        if len(at) > 1:
            found.append((at[0], (block, path[at[0]], path[at[-1]])))
    return tuple(own for _, own in sorted(found))


class Sides(DoorCase):

    def test_each_ask(self):
        many = set()
        for disc in lot_of_discs(40, 1):
            for v, edge, u in made.asks(disc):
                due = slow.arcs_to(disc, v, edge, u)
                got = side(disc, v, edge, u)
                self.assertIn(repr(got), [repr(own) for own in due])
                self.assertIn(len(due), (1, 2))
                many.add((len(due), v in edge, u == got[2]))
                for own in due:
                    self.assertIs(is_side(disc, v, edge, u, own), True)
                self.check_others(disc, v, edge, u, due)
        self.assertEqual(many, {(1, False, False), (1, False, True), (1, True, False), (1, True, True),
                                (2, False, False)} | {own for own in many if own[0] == 2 and not own[1]})

    def check_others(self, disc, v, edge, u, due):
        """The SIDES for other u and other edges are none for these."""
        rim = disc[1]
        for row in (rim, rim[::-1]):
            row = made.shifted(row, row.index(v))
            for k in range(1, len(rim)):
                own = (row[:k], row[k - 1], row[k], row[k:])
                self.assertIs(is_side(disc, v, edge, u, own), own in due)

    def test_v_that_is_an_end_of_edge(self):
        for disc in lot_of_discs(20, 2):
            for v, edge, u in made.asks(disc):
                if v in edge:
                    y = sum(edge) - v
                    got = side(disc, v, edge, u)
                    self.same(got[:3], ((v,), v, y))
                    self.assertEqual((len(got[3]), got[3][0]), (len(disc[1]) - 1, y))
                    self.same(slow.arcs_to(disc, v, edge, u), [got])

    def test_wrong_things(self):
        seen = set()
        for disc in lot_of_discs(10, 3):
            for v, edge, u in Random(1).sample(made.asks(disc), 6):
                due = slow.arcs_to(disc, v, edge, u)
                texts = [repr(own) for own in due]
                for own in due:
                    seen |= self.judged(lambda x: is_side(disc, v, edge, u, x), lambda x: repr(x) in texts,
                                        made.wrong(own, 120) + due)
        self.assertEqual(seen, {True, False})

    def test_errors_in_their_order(self):
        for disc in lot_of_discs(12, 4):
            n, rim = len(disc[0]), disc[1]
            edge, last = made.rim_pairs(disc)[0], (rim[0], rim[0])
            for function, rest in ((side, ()), (is_side, (None,)), (is_side, (((0,), 0, 1, (1, 2)),))):
                for v in [a for a in range(n) if a not in rim] + [n, n + 9]:
                    self.raises(f"NoVertex({v})", function, disc, v, last, v, *rest)
                self.raises(f"NoEdge({last})", function, disc, rim[0], last, rim[0], *rest)
                self.raises(f"NoEdge({edge[::-1]})", function, disc, rim[1], edge[::-1], n, *rest)
                for own in slow.edges(slow.graph_in(disc[0])) - set(made.rim_pairs(disc)):
                    self.raises(f"NoEdge({own})", function, disc, rim[0], own, 0, *rest)
                for u in (rim[2], n, n + 30):
                    self.raises(f"NoVertex({u})", function, disc, rim[2], edge, u, *rest)

    def test_as_great_as_the_bounds(self):
        ring = (made.ring_graph(20), tuple(range(20)))
        self.same(side(ring, 0, (9, 10), 12), (tuple(range(10)), 9, 10, tuple(range(10, 20))))
        self.same(side(ring, 0, (9, 10), 9), ((0,) + tuple(range(19, 9, -1)), 10, 9, tuple(range(9, 0, -1))))


class Chains(DoorCase):

    def test_kept(self):
        for disc in lot_of_discs(30, 5):
            graph = slow.graph_in(disc[0])
            for row in (disc[1], disc[1][::-1]):
                for many in range(1, len(row)):
                    arc = row[:many]
                    for y in range(len(graph)):
                        if y not in arc:
                            due = [own for own in slow.pieces(graph, arc) if y in own]
                            self.same(kept(disc, arc, y), due[0])

    def test_chain(self):
        seen = set()
        for disc in lot_of_discs(16, 6):
            graph = slow.graph_in(disc[0])
            for many in range(1, len(disc[1])):
                arc = disc[1][:many][::-1]
                for y in range(len(graph)):
                    for u in range(len(graph)):
                        seen.add(self.check_chain(disc, graph, arc, y, u))
        self.assertLessEqual({"y", "u", "apart", 0, 1, 2}, seen)

    def check_chain(self, disc, graph, arc, y, u):
        if y in arc:
            self.raises(f"NoVertex({y})", chain, disc, arc, y, u)
            return "y"
        if u in arc:
            self.raises(f"NoVertex({u})", chain, disc, arc, y, u)
            return "u"
        if not any({y, u} <= set(own) for own in slow.pieces(graph, arc)):
            self.raises("CanNot()", chain, disc, arc, y, u)
            return "apart"
        due = () if y == u else chain_slowly(graph, arc, y, u)
        self.same(chain(disc, arc, y, u), due)
        return len(due)

    def test_no_vertex(self):
        self.raises("NoVertex(7)", chain, STAR, (0, 1), 7, 0)
        self.raises("NoVertex(7)", chain, STAR, (0, 1), 2, 7)
        self.raises("NoVertex(0)", chain, STAR, (0, 1), 0, 9)

    def test_hung_at(self):
        seen = set()
        dice = Random(7)
        for disc in lot_of_discs(20, 7):
            graph = slow.graph_in(disc[0])
            for _ in range(12):
                members = tuple(a for a in range(len(graph)) if dice.random() < 0.8)
                left = slow.made(len(graph), [own for own in slow.edges(graph) if set(own) <= set(members)])
                blocks = slow.blocks(left)
                links = tuple((own, own[0], own[-1]) for own in dice.sample(blocks, min(len(blocks), dice.randint(1, 2))))
                if links:
                    for vertex in members:
                        seen.add(self.check_hung(graph, members, links, vertex))
        self.assertEqual(seen, {"in", "one", "not one"})

    def check_hung(self, graph, members, links, vertex):
        held = {a for own in links for a in own[0]}
        if vertex in held:
            self.same(hung_at(graph, members, links, vertex), vertex)
            return "in"
        gone = [a for a in range(len(graph)) if a not in members or a in held]
        piece = [own for own in slow.pieces(graph, gone) if vertex in own][0]
        found = [a for a in held if set(graph[a]) & set(piece)]
        if len(found) != 1:
            self.raises("CanNot()", hung_at, graph, members, links, vertex)
            return "not one"
        self.same(hung_at(graph, members, links, vertex), found[0])
        return "one"

    def test_hung_at_nothing_and_at_two(self):
        path = ((1,), (0, 2), (1, 3), (2,), ())
        self.same(hung_at(path, (0, 1, 2, 3), (((0, 1), 0, 1),), 3), 1)
        self.raises("CanNot()", hung_at, path, (0, 1, 3), (((0, 1), 0, 1),), 3)
        self.raises("CanNot()", hung_at, path, (0, 1, 4), (((0, 1), 0, 1),), 4)
        self.raises("CanNot()", hung_at, made.ring_graph(4), (0, 1, 2, 3), (((0, 1), 0, 1),), 3)

    def test_chain_exit(self):
        """By going along the rim: the last vertex of back that is y or in a block."""
        seen = set()
        for disc in lot_of_discs(50, 8):
            graph = slow.graph_in(disc[0])
            for v, edge, u in made.asks(disc):
                for arc, x, y, back in slow.arcs_to(disc, v, edge, u):
                    links = chain(disc, arc, y, u)
                    held = {y}.union(*(own[0] for own in links))
                    due = [a for a in back if a in held][-1]
                    self.same(chain_exit(disc, arc, back, links), due)
                    self.check_hook(graph, arc, back, y, held, due)
                    seen.add((y == u, due == back[-1]))
        self.assertEqual(len(seen), 4)

    def check_hook(self, graph, arc, back, y, held, due):
        if back[-1] not in held:
            gone = set(arc) | held
            piece = [own for own in slow.pieces(graph, gone) if back[-1] in own][0]
            self.assertEqual([a for a in held if set(graph[a]) & set(piece)], [due])

    def test_a_disc_of_three_vertices(self):
        self.same(side(THREE, 0, (0, 1), 1), ((0,), 0, 1, (1, 2)))
        self.same(side(THREE, 0, (1, 2), 1), ((0, 2), 2, 1, (1,)))
        self.same(side(THREE, 0, (0, 2), 1), ((0,), 0, 2, (2, 1)))
        self.same((kept(THREE, (0,), 1), chain(THREE, (0,), 2, 1)), ((1, 2), (((1, 2), 2, 1),)))
        self.same(chain_exit(THREE, (0,), (1, 2), ()), 1)
        self.same(chain_exit(THREE, (0,), (2, 1), (((1, 2), 2, 1),)), 1)
