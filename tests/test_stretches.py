"""Point [13]: stretches.py."""

from random import Random

from tests import made, slow
from tests.doors import DoorCase
from threefeet.stretches import (
    arc_left, hangings, led_anew, shut_off, standing, stretch_vertices, stretches)

STAR = (((1, 6, 5), (0, 2), (1, 3, 6), (2, 4), (3, 5, 6), (0, 4), (0, 2, 4)), (0, 1, 2, 3, 4, 5))
WHEEL = (((1, 4, 3), (0, 2, 4), (1, 3, 4), (0, 4, 2), (0, 1, 2, 3)), (0, 1, 2, 3))


def arcs(rim):
    """All arcs of the rim but the whole, in both directions."""
    found = []
    for row in (rim, rim[::-1]):
        for k in range(len(rim)):
            for many in range(1, len(rim)):
                found.append(made.shifted(row, k)[:many])
    return found


def some_path(disc, arc, dice):
    """A path off arc with a vertex of the rim."""
    graph = slow.graph_in(disc[0])
    path = [dice.choice([a for a in disc[1] if a not in arc])]
    for _ in range(dice.randint(0, len(graph))):
        end = dice.choice((0, -1))
        fresh = [a for a in graph[path[end]] if a not in arc and a not in path]
        if fresh:
            path.insert(0 if end == 0 else len(path), dice.choice(fresh))
    return tuple(path)


def cases(many, least, most, seed):
    """Discs, arcs and paths."""
    dice = Random(seed)
    lot = made.thin_discs(many, least, most, seed) + made.discs(many // 3, least, most, seed)[::2]
    lot += made.solid_discs(many // 2, least, most, seed)
    for disc in lot:
        for _ in range(6):
            arc = dice.choice(arcs(disc[1]))
            yield disc, arc, some_path(disc, arc, dice)


class Stretches(DoorCase):

    def test_many(self):
        seen = {"edge": 0, "end": 0, "two": 0, "one": 0, "none": 0, "shut": 0}
        for disc, arc, path in cases(200, 3, 11, 1):
            self.check(disc, arc, path, seen)
        self.assertGreater(min(seen.values()), 10, seen)

    def check(self, disc, arc, path, seen):
        lot = slow.hangings(disc, arc, path)
        pairs = slow.stretches(lot)
        self.same(hangings(disc, arc, path), lot)
        self.same(stretches(disc, arc, path), pairs)
        within = {k for i, j in pairs for k in range(i + 1, j)}
        self.same(arc_left(disc, arc, path), tuple(k for k in range(len(arc)) if k not in within))
        self.check_guarantees(disc, arc, lot, pairs)
        for i in range(len(arc) + 1):
            for j in range(len(arc) + 1):
                if (i, j) in pairs:
                    self.check_stretch(disc, arc, path, lot, (i, j), seen)
                else:
                    for function in (stretch_vertices, standing, shut_off):
                        self.raises("CanNot()", function, disc, arc, path, (i, j))
        seen["edge"] += any(not own[2] for own in lot)
        seen["end"] += any(own[0] == own[1] for own in lot)

    def check_guarantees(self, disc, arc, lot, pairs):
        for one in lot:
            for two in lot:
                (i, j), (k, m) = one[:2], two[:2]
                apart = j <= k or m <= i
                self.assertTrue(apart or (i <= k and m <= j) or (k <= i and j <= m))
        for (i, j), (k, m) in zip(pairs, pairs[1:]):
            self.assertLessEqual(j, k)
        for pair in pairs:
            inner = slow.in_stretch(lot, pair)
            self.assertLessEqual(sum(1 for own in inner if own[3]), 1)
            held = set(arc[pair[0]:pair[1] + 1]).union(*(own[2] for own in inner))
            for k in range(pair[0] + 1, pair[1]):
                self.assertLessEqual(set(disc[0][arc[k]]), held)

    def check_stretch(self, disc, arc, path, lot, stretch, seen):
        inner = slow.in_stretch(lot, stretch)
        held = set(arc[stretch[0]:stretch[1] + 1]).union(*(own[2] for own in inner))
        self.same(stretch_vertices(disc, arc, path, stretch), tuple(sorted(held)))
        due = [own[3] for own in inner if own[3]]
        self.same(standing(disc, arc, path, stretch), due[0] if due else ())
        self.same(shut_off(disc, arc, path, stretch), tuple(own for own in inner if not own[3]))
        seen[{0: "none", 1: "one"}.get(len(due[0]) if due else 0, "two")] += 1
        seen["shut"] += len(inner) > 1 and any(not own[3] for own in inner)

    def test_an_edge_of_the_arc_hangs_too(self):
        kite = (((1, 2, 3), (0, 2), (0, 1, 3), (0, 2)), (0, 1, 2, 3))
        for arc, path in (((0, 1, 2), (3,)), ((2, 1, 0), (3,))):
            self.same(hangings(kite, arc, path), ((0, 2, (), ()),))
            self.same((stretches(kite, arc, path), arc_left(kite, arc, path)), (((0, 2),), (0, 2)))
            self.same(stretch_vertices(kite, arc, path, (0, 2)), (0, 1, 2))
            self.same((standing(kite, arc, path, (0, 2)), shut_off(kite, arc, path, (0, 2))), ((), ((0, 2, (), ()),)))
        # An EDGE along the arc hangs nowhere.
        self.same(hangings(kite, (0, 1), (2, 3)), ())

    def test_arcs_of_one_vertex(self):
        for disc in made.thin_discs(60, 3, 8, 2):
            dice = Random(len(disc[1]))
            for a in disc[1]:
                path = some_path(disc, (a,), dice)
                self.same(hangings(disc, (a,), path), slow.hangings(disc, (a,), path))
                self.same((stretches(disc, (a,), path), arc_left(disc, (a,), path)), ((), (0,)))
                for own in hangings(disc, (a,), path):
                    self.assertEqual(own[:2], (0, 0))
                self.raises("CanNot()", standing, disc, (a,), path, (0, 0))
        self.same(hangings(WHEEL, (0,), (1,)), ((0, 0, (2, 3, 4), (1,)),))

    def test_both_directions(self):
        for disc, arc, path in cases(60, 4, 9, 3):
            last = len(arc) - 1
            due = tuple(sorted((last - j, last - i, own, feet) for i, j, own, feet in hangings(disc, arc, path)))
            self.same(hangings(disc, arc[::-1], path[::-1]), due)

    def test_what_hangs_at_an_end_alone(self):
        """It is in no STRETCH there, though its pair lies within."""
        self.same(hangings(STAR, (0, 1, 2), (3, 4))[0], (0, 0, (5,), (4,)))
        self.same(stretch_vertices(STAR, (0, 1, 2), (3, 4), (0, 2)), (0, 1, 2, 6))
        self.same(shut_off(STAR, (0, 1, 2), (3, 4), (0, 2)), ())
        self.same(shut_off(STAR, (2, 1, 0), (3, 4), (0, 2)), ())

    def test_as_great_as_the_bounds(self):
        ring = made.ring_graph(40)
        disc = (ring, tuple(range(40)))
        arc = tuple(range(38))
        self.same((hangings(disc, arc, (38, 39)), arc_left(disc, arc, (39,))), ((), arc))
        self.same(hangings(disc, arc, (39,)), ((37, 37, (38,), (39,)),))
        big = made.Map(5, 40, 114, True)
        disc = (big.turns, big.outside())
        rim = disc[1]
        self.same(hangings(disc, rim[:2], rim[2:]), slow.hangings(disc, rim[:2], rim[2:]))
        self.same(stretch_vertices(disc, rim[:2], rim[2:], (0, 1)), tuple(a for a in range(40) if a != rim[2]))
        fan = ((39,) + tuple(range(38, 0, -1)), (0, 2)) + tuple((0, k + 1, k - 1) for k in range(2, 39)) + ((0, 38),)
        disc = (fan, (0,) + tuple(range(39, 0, -1)))
        self.assertTrue(slow.is_disc(disc))
        arc = tuple(range(39))
        self.same(hangings(disc, arc, (39,)), tuple((0, a, (), ()) for a in range(2, 39)))
        self.same((stretches(disc, arc, (39,)), arc_left(disc, arc, (39,))), (((0, 38),), (0, 38)))


class Led(DoorCase):

    def test_led_anew(self):
        arc = (5, 3, 8, 1, 6)
        for i in range(5):
            for j in range(i + 1, 5):
                for inner in ((), (2,), (9, 4, 7)):
                    line = arc[i:i + 1] + inner + arc[j:j + 1]
                    self.same(led_anew(arc, (i, j), line), arc[:i] + line + arc[j + 1:])
                    self.raises("CanNot()", led_anew, arc, (i, j), line[::-1])
                    self.raises("CanNot()", led_anew, arc, (i, j), line[:-1])
                    self.raises("CanNot()", led_anew, arc, (i, j), line[1:])
                    self.raises("CanNot()", led_anew, arc, (i, j), line + (0,))
        self.raises("CanNot()", led_anew, arc, (0, 1), (5,))
        self.raises("CanNot()", led_anew, arc, (0, 1), (3,))
        self.same(led_anew((0, 1), (0, 1), (0, 1)), (0, 1))
        self.same(led_anew(tuple(range(40)), (0, 39), (0, 39)), (0, 39))
