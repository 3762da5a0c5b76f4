"""Point [19]: strands.py."""

from itertools import permutations
from random import Random

from tests import made, slow
from tests.doors import DoorCase
from tests.test_discs import alone_of, hub_of, rim_where
from threefeet.strands import (
    change_overs, is_strand, is_strand_walk, outside_feet, strand, strand_disc, strand_walk)

KITE = (((1, 2, 3), (0, 2), (0, 1, 3), (0, 2)), (0, 1, 2, 3))
BELL = (((1, 2, 3), (0, 4, 5, 2), (0, 1, 5, 6), (0, 6, 5, 4), (1, 3, 5), (1, 4, 3, 6, 2), (2, 5, 3)), (0, 2, 1))
CORE = (3, 4, 5, 6)


def others_of(disc, cycle, members, foot):
    turns, rim = disc
    found = [a for a in cycle if a != foot and set(turns[a]) & set(members)]
    return found + [len(turns)] if set(members) & set(rim) else found


def touches(disc, vertex, other):
    return vertex in disc[1] if other == len(disc[0]) else other in disc[0][vertex]


def strand_blocks(disc, members, foot):
    kept = tuple(sorted(members + (foot,)))
    small = slow.taken(slow.graph_in(disc[0]), kept)
    return [tuple(kept[a] for a in block) for block in slow.blocks(small)]


def rim_of(disc, block):
    """The darts round the region of block in which all other vertices and the outside lie, in the numbers of disc."""
    others = [a for a in range(len(disc[0]) + 1) if a not in block]
    return rim_where(hub_of(disc), block, others)


def is_change_over(disc, block, first, z, others):
    if len(block) == 2:
        return {first, z} == set(block) and first != z
    after = dict(rim_of(disc, block))
    if z == first or z not in after:
        return False
    for start, end in ((first, z), (z, first)):
        touched = set()
        a = after[start]
        while a != end:
            touched.update(other for other in others if touches(disc, a, other))
            a = after[a]
        if len(touched) > 1:
            return False
    return True


def is_strand_slowly(disc, cycle, members, foot, x):
    if type(x) is not tuple or not x or not all(type(own) is tuple and len(own) == 3 for own in x):
        return False
    if not all(slow.numbers(own[0]) and slow.number(own[1]) and slow.number(own[2]) for own in x):
        return False
    if sorted(own[0] for own in x) != sorted(strand_blocks(disc, members, foot)):
        return False
    if x[0][1] != foot or foot not in x[0][0]:
        return False
    for (block, first, last), (after, come, _) in zip(x, x[1:]):
        if come != last or last not in block or last not in after:
            return False
    block, first, z = x[-1]
    return is_change_over(disc, block, first, z, others_of(disc, cycle, members, foot))


def strands_slowly(disc, cycle, members, foot):
    """All of them: the blocks in each order, each two going on by a vertex in both, and each end."""
    found = set()
    for row in permutations(strand_blocks(disc, members, foot)):
        trail = [((), foot)]
        for k, block in enumerate(row):
            ends = range(len(disc[0])) if k == len(row) - 1 else row[k + 1]
            trail = [(own + ((block, at, z),), z) for own, at in trail for z in ends if at in block and z in block]
        found.update(own for own, _ in trail if is_strand_slowly(disc, cycle, members, foot, own))
    return sorted(found)


def is_walk_over(disc, members, foot, x):
    if not slow.is_walk(slow.graph_in(disc[0]), x) or x[0] != foot or set(x) != set(members) | {foot}:
        return False
    if x.count(foot) != 1 or any(x.count(a) > 2 for a in members):
        return False
    lot = slow.steps(x)
    return all(lot.count(own) < 3 for own in lot)


def cases(discs, most, seed=0):
    """Discs, cycles, members and feet."""
    dice = Random(seed)
    for disc in discs:
        graph = slow.graph_in(disc[0])
        lot = [own for own in slow.cycles(graph) if slow.is_three_footed(disc, own) and slow.parts(graph, own)]
        for cycle in dice.sample(lot, min(most, len(lot))):
            cycle = made.shifted(cycle, dice.randrange(9))[::dice.choice((1, -1))]
            for members, feet in slow.parts(graph, cycle):
                for foot in feet:
                    yield disc, cycle, members, foot


class Strands(DoorCase):

    def check(self, disc, cycle, members, foot, seen):
        others = others_of(disc, cycle, members, foot)
        self.assertEqual(len(others), 2)
        lot = strands_slowly(disc, cycle, members, foot)
        self.assertEqual(len({own[:-1] + (own[-1][:2],) for own in lot}), 1)
        self.assertIn(repr(strand(disc, cycle, members, foot)), [repr(own) for own in lot])
        self.same(change_overs(disc, cycle, members, foot), tuple(own[-1][2] for own in lot))
        for own in lot:
            self.assertIs(is_strand(disc, cycle, members, foot, own), True)
        self.check_blocks(disc, members, foot, lot[0], others)
        walk = strand_walk(disc, cycle, members, foot)
        self.assertTrue(is_walk_over(disc, members, foot, walk))
        self.assertIs(is_strand_walk(disc, cycle, members, foot, walk), True)
        seen.add((min(len(lot[0]), 3), len(lot[0][-1][0]) > 2, len(disc[0]) in others, len(lot) > 1))

    def check_blocks(self, disc, members, foot, own, others):
        for k, (block, first, last) in enumerate(own):
            if len(block) == 2:
                self.raises("CanNot()", strand_disc, disc, members, foot, block)
                continue
            names, (turns, rim) = strand_disc(disc, members, foot, block)
            self.same((names, turns), (block, alone_of(disc[0], block)))
            self.assertEqual({(block[a], block[b]) for a, b in slow.darts(rim)}, rim_of(disc, block))
            self.same(rim, slow.from_least(rim))
            self.assertTrue(slow.is_disc((turns, rim)) and not slow.soft((turns, rim)))
            self.assertTrue(is_change_over(disc, block, first, last, others))

    def test_all_cycles_of_small_discs(self):
        seen = set()
        for own in cases(made.solid_discs(60, 4, 7, 1) + [KITE, BELL], 99):
            self.check(*own, seen)
        self.assertGreater(len(seen), 8)

    def test_greater_discs(self):
        seen = set()
        for own in cases(made.solid_discs(50, 8, 10, 2), 3):
            self.check(*own, seen)
        self.assertGreaterEqual(len(seen), 12, seen)

    def test_as_great_as_the_bounds(self):
        for k, disc in enumerate(made.solid_discs(4, 20, 20, 3)):
            self.check_great(disc, k)
        # The rim alone as the cycle, or a face of three; all others are one PART.
        full = made.Map(3, 20, 60, True)
        disc = (full.turns, full.outside())
        for foot in disc[1]:
            members = tuple(a for a in range(20) if a not in disc[1])
            walk = strand_walk(disc, disc[1], members, foot)
            self.assertTrue(is_walk_over(disc, members, foot, walk))
            own = strand(disc, disc[1], members, foot)
            self.assertIs(is_strand(disc, disc[1], members, foot, own), True)
            self.assertIn(own[-1][2], change_overs(disc, disc[1], members, foot))

    def check_great(self, disc, k):
        graph = slow.graph_in(disc[0])
        for cycle in slow.faces(disc[0]):
            if slow.is_three_footed(disc, cycle):
                for members, feet in slow.parts(graph, cycle):
                    for foot in feet:
                        walk = strand_walk(disc, cycle, members, foot)
                        self.assertTrue(is_walk_over(disc, members, foot, walk))
                        own = strand(disc, cycle, members, foot)
                        others = others_of(disc, cycle, members, foot)
                        self.assertTrue(is_change_over(disc, own[-1][0], own[-1][1], own[-1][2], others))

    def test_members_of_one_vertex(self):
        for foot in (0, 2):
            self.same(strand(KITE, (0, 1, 2), (3,), foot), ((tuple(sorted((foot, 3))), foot, 3),))
            self.same(change_overs(KITE, (0, 1, 2), (3,), foot), (3,))
            self.same(strand_walk(KITE, (0, 1, 2), (3,), foot), (foot, 3))
            self.assertIs(is_strand_walk(KITE, (0, 1, 2), (3,), foot, (foot, 3)), True)
            self.assertIs(is_strand_walk(KITE, (0, 1, 2), (3,), foot, (3, foot)), False)
        self.raises("CanNot()", strand_disc, BELL, CORE, 0, (0, 3))

    def test_outside_feet(self):
        seen = set()
        for disc, cycle, members, _ in cases(made.solid_discs(40, 4, 9, 4) + [KITE, BELL], 4):
            for vertex in members:
                due = sorted(a for a in cycle if vertex in disc[0][a]) + [len(disc[0])] * (vertex in disc[1])
                self.same(outside_feet(disc, cycle, members, vertex), tuple(due))
                seen.add((len(due), vertex in disc[1]))
        self.assertLessEqual({(0, False), (1, False), (2, False), (3, False), (1, True), (2, True), (3, True)}, seen)


class Judges(DoorCase):

    def test_wrong_strands(self):
        seen = set()
        for disc, cycle, members, foot in list(cases(made.solid_discs(30, 5, 8, 5) + [BELL], 3))[::4]:
            own = strand(disc, cycle, members, foot)
            things = made.wrong(own, 80) + [own, own[::-1], own[:1], own * 2, ()]
            things += [own[:-1] + ((own[-1][0], own[-1][1], a),) for a in range(len(disc[0]) + 1)]
            seen |= self.judged(lambda x: is_strand(disc, cycle, members, foot, x),
                                lambda x: is_strand_slowly(disc, cycle, members, foot, x), things)
        self.assertEqual(seen, {True, False})

    def test_strands_that_lack_one_condition(self):
        good = (((0, 3), 0, 3), ((3, 4, 5, 6), 3, 5))
        self.assertIs(is_strand(BELL, (0, 1, 2), CORE, 0, good), True)
        one, two = good
        for thing in (list(good), (list(one), two), (([0, 3], 0, 3), two), (one,), (two,), (two, one), (one, two, two), (one, one),
                      (one, ((3, 4, 5, 6), 3, 4)), (one, ((3, 4, 5, 6), 3, 3)), (one, ((3, 4, 5, 6), 4, 5)), None, (), "",
                      (((0, 3), False, 3), two), (((0, 3), 3, 0), two), (((3, 0), 0, 3), two), (one, ((3, 4, 5), 3, 5)),
                      (one, ((3, 4, 5, 6), 3)), (one, ((3, 4, 5, 6), 3, 5, 5)), (one, ((3, 4, 5, 6), 3, None)), (one, None)):
            self.assertIs(is_strand(BELL, (0, 1, 2), CORE, 0, thing), False, thing)

    def test_wrong_walks(self):
        seen = set()
        for disc, cycle, members, foot in list(cases(made.solid_discs(30, 5, 8, 6) + [BELL, KITE], 3))[::4]:
            own = strand_walk(disc, cycle, members, foot)
            things = made.wrong(own, 80) + [own, own[:1] + own[:0:-1], own * 2, own[:2]]
            seen |= self.judged(lambda x: is_strand_walk(disc, cycle, members, foot, x),
                                lambda x: is_walk_over(disc, members, foot, x), things)
        self.assertEqual(seen, {True, False})

    def test_walks_that_lack_one_condition(self):
        for thing, due in (((0, 3, 4, 5, 6, 3), True), ((0, 3, 6, 5, 4, 3), True), ((3, 4, 5, 6, 3, 0), False),
                           ((0, 3, 4, 5, 6), False), ((0, 3, 4, 5, 4, 3), False), ((0, 3, 4, 5, 6, 3, 0, 3), False),
                           ((0, 3, 4, 3, 5, 6, 3), False), ((0, 3, 4, 5, 6, 5, 3), True), ((0, 3, 4, 5, 6, 5, 4, 3), True),
                           ((0, 1, 4, 5, 6, 3), False), ([0, 3, 4, 5, 6, 3], False), ((False, 3, 4, 5, 6, 3), False),
                           ((0, 3, 4, 5, 4, 5, 6, 3), False), ((0,), False), ((), False), (None, False)):
            self.assertIs(is_walk_over(BELL, CORE, 0, thing), due, thing)
            self.assertIs(is_strand_walk(BELL, (0, 1, 2), CORE, 0, thing), due, thing)
