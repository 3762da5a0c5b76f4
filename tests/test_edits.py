"""Point [25]: edits.py."""

from itertools import combinations, permutations
from random import Random

from tests import made, slow
from tests.doors import DoorCase
from threefeet.edits import all_done, can_halve, can_seat, chord, cut_corner, deed_done, halve, seat
from threefeet.homes import home

FOUR = made.FOUR
RING = ((0, 1, 2, 3), ())
# HOMES, and a FACE all corners of which come twice, though no EDGE of it is used.
SHUT = (
    (((1, 5, 2, 3, 6), (0, 4, 3, 2, 5), (0, 5, 1, 3), (0, 2, 1, 4, 6), (1, 6, 3), (0, 1, 2), (0, 3, 4)),
     ((1, 0, 6, 4, 3, 4, 3, 6, 0, 5, 2, 1, 2), ((0, 3, 4), (0, 1, 2), (0, 1, 2), (0, 3, 4), (0, 3, 4), (1, 3, 6))), (0, 3, 2)),
    (((1, 4, 5, 7, 3), (0, 3, 2, 8, 6), (1, 3, 7, 5, 4, 6, 8), (0, 7, 2, 1), (0, 6, 2, 5), (0, 4, 2), (1, 8, 2, 4), (0, 2, 3),
      (1, 2, 6)),
     ((8, 6, 1, 6, 1, 2, 7, 3, 0, 4, 0, 4, 5, 2), ((0, 1, 2), (1, 2, 4), (1, 2, 4), (1, 2, 4), (1, 2, 6))), (2, 6, 4)))


def asks(many, most, seed):
    """Pairs of TURNS and of a HOME of them, of all kinds: begun anywhere, walked either way, with vertices that come twice."""
    dice = Random(seed)
    found = []
    while len(found) < many:
        turns = made.begun_elsewhere(made.stacked(dice, dice.randint(4, most)), len(found))
        own = made.random_home(turns, dice)
        if own is not None:
            found.append((turns, own))
    return found


def pairs_on(face):
    return sorted({tuple(sorted(dart)) for dart in slow.darts(face)})


def put_in(rows, face, b, c):
    """c into the turn of b where face comes by."""
    before = face[face.index(b) - 1]
    rows[b].insert(rows[b].index(before) + 1, c)


def seat_by_hand(turns, face):
    n = len(turns)
    rows = [list(row) for row in turns] + [list(face[::-1])]
    for b in face:
        put_in(rows, face, b, n)
    return slow.begun(tuple(tuple(row) for row in rows))


def halve_by_hand(turns, face, edge):
    n = len(turns)
    third = [a for a in face if a not in edge][0]
    before, behind = face[face.index(third) - 1], face[(face.index(third) + 1) % 3]
    rows = [[n if {a, b} == set(edge) else b for b in row] for a, row in enumerate(turns)]
    rows[third].insert(rows[third].index(before) + 1, n)
    # Seen from n the other two, and the third where face lies.
    rows.append([behind, third, before])
    return slow.begun(tuple(tuple(row) for row in rows))


def cut_by_hand(turns, vertex):
    a, b, c = slow.from_least(turns[vertex])
    n = len(turns)
    rows = [list(row) for row in turns] + [[b, n + 1, vertex], [c, vertex, n]]
    rows[vertex] = [a, n, n + 1]
    for x, own in ((b, n), (c, n + 1)):
        rows[x] = [own if d == vertex else d for d in rows[x]]
    return slow.begun(tuple(tuple(row) for row in rows))


def chord_by_hand(turns, face, a, b):
    rows = [list(row) for row in turns]
    put_in(rows, face, a, b)
    put_in(rows, face, b, a)
    return slow.begun(tuple(tuple(row) for row in rows))


class EditCase(DoorCase):

    def check(self, got, due):
        """got is the TURNS due and a HOME of them."""
        self.same(got[0], due)
        self.assertTrue(slow.is_plane(due))
        graph = slow.graph_in(due)
        self.assertTrue(slow.firm(graph))
        self.assertTrue(slow.is_home(graph, got[1]), got)


class Seats(EditCase):

    def test_each_face(self):
        seen = set()
        for turns, own in asks(70, 9, 1):
            for k, face in enumerate(slow.faces(turns)):
                face = made.shifted(face, k)
                if len(face) != 3:
                    self.raises("CanNot()", seat, turns, own, face)
                    continue
                due = slow.can_seat(own[0], face)
                self.assertIs(can_seat(own, face), due)
                if due:
                    got = seat(turns, own, face)
                    self.check(got, seat_by_hand(turns, face))
                    # The others come as often as they did, but for a corner from which one goes and comes back.
                    more = [a for a in range(len(turns)) if got[1][0].count(a) != own[0].count(a)]
                    used = any(slow.times_over(own[0], pair) for pair in combinations(face, 2))
                    self.assertTrue(not more if used else len(more) == 1 and more[0] in face)
                    self.assertEqual(got[1][0].count(len(turns)), 1)
                    seen.add(used)
                else:
                    self.raises("CanNot()", seat, turns, own, face)
        self.assertEqual(seen, {True, False})

    def test_a_face_that_is_shut(self):
        for turns, own, face in SHUT:
            self.assertTrue(slow.is_home(slow.graph_in(turns), own))
            for k in range(3):
                row = made.shifted(face, k)
                self.assertIs(can_seat(own, row), False)
                self.raises("CanNot()", seat, turns, own, row)
                for edge in pairs_on(face):
                    self.assertIs(can_halve(own, row, edge), False)
                    self.raises("CanNot()", halve, turns, own, row, edge)

    def test_errors_in_their_order(self):
        for turns, own in asks(12, 8, 2):
            n = len(turns)
            for face in slow.faces(turns):
                for wrong in (face[::-1], face[:2], face + (n,), (), (n,), (n, n + 1, n + 2)):
                    self.raises(f"NoFace({wrong})", seat, turns, own, wrong)


class Halves(EditCase):

    def test_each_edge_of_each_face(self):
        """Used not at all, once, twice the same way, twice both ways, three times."""
        seen = set()
        for turns, own in asks(170, 9, 3):
            for k, face in enumerate(slow.faces(turns)):
                face = made.shifted(face, k)
                for edge in pairs_on(face):
                    if len(face) != 3:
                        self.raises("CanNot()", halve, turns, own, face, edge)
                        continue
                    due = slow.can_halve(own[0], face, edge)
                    over = slow.times_over(own[0], edge)
                    seen.add((len(over), len(set(over)), due))
                    self.assertIs(can_halve(own, face, edge), due)
                    if due:
                        got = halve(turns, own, face, edge)
                        self.check(got, halve_by_hand(turns, face, edge))
                        self.assertEqual(got[1][0].count(len(turns)), 1)
                    else:
                        self.raises("CanNot()", halve, turns, own, face, edge)
        self.assertLessEqual({(0, 0, True), (1, 1, True), (2, 1, True), (2, 2, False), (3, 2, False)}, seen)
        self.assertFalse({own for own in seen if own[2] and own[:2] in ((2, 2), (3, 2)) or own in ((1, 1, False), (2, 1, False))})

    def test_errors_in_their_order(self):
        for turns, own in asks(15, 8, 4):
            n = len(turns)
            pairs = sorted(slow.edges(slow.graph_in(turns)))
            for face in slow.faces(turns):
                near = pairs_on(face)
                for wrong in (face[::-1], face[1:], face + (n,), (), (n,)):
                    self.raises(f"NoFace({wrong})", halve, turns, own, wrong, (n, n))
                    self.raises(f"NoFace({wrong})", halve, turns, own, wrong, near[0])
                for edge in [pair for pair in pairs if pair not in near] + [near[0][::-1], (n, n), (near[0][0], n), (0, 0)]:
                    self.raises(f"NoEdge({edge})", halve, turns, own, face, edge)


class Corners(EditCase):

    def test_each_corner(self):
        """Passed through or turned back at, once and twice."""
        seen = set()
        for turns, own in asks(150, 9, 5):
            walk = own[0]
            for vertex in range(len(turns)):
                if len(turns[vertex]) != 3:
                    self.raises("CanNot()", cut_corner, turns, own, vertex)
                    continue
                got = cut_corner(turns, own, vertex)
                self.check(got, cut_by_hand(turns, vertex))
                # The others come as often as they did.
                for a in range(len(turns)):
                    if a != vertex:
                        self.assertEqual(got[1][0].count(a), walk.count(a))
                passes = [{walk[k - 1], walk[(k + 1) % len(walk)]} for k, a in enumerate(walk) if a == vertex]
                seen.add(tuple(sorted(len(own) for own in passes)))
                if len(passes) == 2:
                    seen.add(("same", passes[0] == passes[1]))
        self.assertEqual(seen, {(1,), (2,), (1, 1), (1, 2), (2, 2), ("same", True), ("same", False)})

    def test_a_corner_in_the_triples_of_others(self):
        many = 0
        for turns, own in asks(120, 9, 6):
            for vertex in range(len(turns)):
                if len(turns[vertex]) == 3 and any(vertex in triple for triple in own[1]):
                    got = cut_corner(turns, own, vertex)
                    self.check(got, cut_by_hand(turns, vertex))
                    many += 1
        self.assertGreater(many, 40)

    def test_a_corner_can_always_be_cut(self):
        """Again and again, up to twenty vertices."""
        dice = Random(7)
        for turns, own in asks(10, 7, 7):
            while len(turns) < 19:
                lot = [a for a, row in enumerate(turns) if len(row) == 3]
                vertex = dice.choice(lot)
                got = cut_corner(turns, own, vertex)
                self.check(got, cut_by_hand(turns, vertex))
                turns, own = got

    def test_errors(self):
        for turns, own in asks(10, 8, 8):
            for vertex in (len(turns), len(turns) + 5):
                self.raises(f"NoVertex({vertex})", cut_corner, turns, own, vertex)


class Chords(EditCase):

    def test_each_pair_of_each_face(self):
        seen = set()
        for turns, own in asks(70, 9, 9):
            n = len(turns)
            graph = slow.graph_in(turns)
            for k, face in enumerate(slow.faces(turns)):
                face = made.shifted(face, k)
                for a, b in permutations(face, 2):
                    if b in graph[a]:
                        self.raises("CanNot()", chord, turns, own, face, a, b)
                        continue
                    held = slow.held_in_triples(slow.made(n, slow.edges(graph) | {(a, b)}))
                    due = all(held[c] for c in range(n) if own[0].count(c) == 2)
                    seen.add(due)
                    if due:
                        got = chord(turns, own, face, a, b)
                        self.check(got, chord_by_hand(turns, face, a, b))
                        self.same(got[1][0], own[0])
                    else:
                        self.raises("CanNot()", chord, turns, own, face, a, b)
        self.assertEqual(seen, {True, False})

    def test_a_chord_that_takes_away_a_triple(self):
        """Round 2 stand 0, 3, 1, 4: only 0, 1, 2 part 3 from 4, and only 2, 3, 4 part 0 from 1."""
        ring = ((3, 4), (4, 3), (), (0, 1), (1, 0))
        turns = ((3, 2, 4), (4, 2, 3), (0, 3, 1, 4), (0, 1, 2), (0, 2, 1))
        self.assertTrue(slow.is_plane(turns))
        graph = slow.graph_in(turns)
        self.assertEqual(slow.separators(graph, 3), ((0, 1, 2), (2, 3, 4)))
        self.assertEqual(slow.edges(graph) - {(0, 2), (1, 2), (2, 3), (2, 4)}, slow.edges(ring))
        face = [own for own in slow.faces(turns) if len(own) == 4][0]
        for triple in ((0, 1, 2), (2, 3, 4)):
            own = ((0, 3, 2, 1, 4, 2), (triple,))
            self.assertTrue(slow.is_home(graph, own))
            for a, b, left in ((3, 4, (2, 3, 4)), (1, 0, (0, 1, 2))):
                got = chord(turns, own, face, a, b)
                self.check(got, chord_by_hand(turns, face, a, b))
                self.same(got[1], (own[0], (left,)))
        own = ((0, 3, 1, 4, 0, 2), ((0, 1, 2),))
        self.assertTrue(slow.is_home(graph, own))
        self.raises("CanNot()", chord, turns, own, face, 3, 4)
        self.check(chord(turns, own, face, 0, 1), chord_by_hand(turns, face, 0, 1))

    def test_errors_in_their_order(self):
        for turns, own in asks(15, 8, 10):
            n = len(turns)
            for face in slow.faces(turns):
                off = [a for a in range(n) if a not in face] + [n, n + 4]
                for wrong in (face[::-1], face[1:], (), (n,)):
                    self.raises(f"NoFace({wrong})", chord, turns, own, wrong, n, n)
                for a in off:
                    self.raises(f"NoVertex({a})", chord, turns, own, face, a, n + 9)
                    self.raises(f"NoVertex({a})", chord, turns, own, face, a, a)
                    self.raises(f"NoVertex({a})", chord, turns, own, face, face[0], a)
                for a in face:
                    self.raises("CanNot()", chord, turns, own, face, a, a)


def all_deeds(turns):
    """Each deed with its FACE, EDGE or vertices as they must be, and some as they must not."""
    n = len(turns)
    found = [("corner", a) for a in range(n + 1)] + [("seat", (0, n, 1)), ("halve", (0, 1), (0, 1)), ("chord", (), 0, 1)]
    for face in slow.faces(turns):
        found += [("seat", face), ("seat", face[::-1]), ("halve", face, (n, 0)), ("chord", face, n, 0)]
        found += [("halve", face, edge) for edge in pairs_on(face)]
        found += [("chord", face, a, b) for a, b in combinations(face, 2)]
    return found


def outcome(function, *args):
    try:
        return function(*args)
    except (LookupError, ValueError) as error:
        return type(error).__name__, vars(error)


class Deeds(EditCase):

    def test_each_deed(self):
        functions = {"seat": seat, "halve": halve, "corner": cut_corner, "chord": chord}
        seen = set()
        for turns, own in asks(25, 8, 11):
            for deed in all_deeds(turns):
                due = outcome(functions[deed[0]], turns, own, *deed[1:])
                self.same(outcome(deed_done, turns, own, deed), due)
                seen.add((deed[0], due[0] if isinstance(due[0], str) else ""))
        self.assertLessEqual({(word, "") for word in functions}, seen)
        self.assertLessEqual({("seat", "NoFace"), ("halve", "NoFace"), ("halve", "NoEdge"), ("corner", "NoVertex"), ("corner", "CanNot"),
                              ("chord", "NoFace"), ("chord", "NoVertex"), ("chord", "CanNot"), ("seat", "CanNot"),
                              ("halve", "CanNot")}, seen)

    def test_long_rows(self):
        """One deed behind the other, with deeds that raise at the end or not."""
        dice = Random(12)
        kinds = set()
        for turns, own in asks(25, 5, 12):
            deeds = []
            now = (turns, own)
            while len(now[0]) < 18 and len(deeds) < 14:
                fit = [deed for deed in dice.sample(all_deeds(now[0]), 12) if not isinstance(outcome(deed_done, *now, deed)[0], str)]
                if fit:
                    deeds.append(fit[0])
                    kinds.add(fit[0][0])
                    now = deed_done(*now, fit[0])
            many, *got = all_done(turns, own, tuple(deeds))
            self.assertEqual(many, len(deeds))
            self.same(tuple(got), now)
            self.check(got, got[0])
            bad = ("corner", 99)
            at = dice.randrange(len(deeds))
            self.same(all_done(turns, own, tuple(deeds) + (bad,) + tuple(deeds)), (many, *now))
            many, *half = all_done(turns, own, tuple(deeds[:at]) + (bad,) + tuple(deeds[at:]))
            self.assertEqual(many, at)
            self.check(half, half[0])
            self.same((many, *half), all_done(turns, own, tuple(deeds[:at])))
        self.assertEqual(kinds, {"seat", "halve", "corner", "chord"})

    def test_no_deed_and_a_first_that_is_refused(self):
        for turns, own in asks(10, 8, 13):
            begun = slow.begun(turns)
            self.same(all_done(turns, own, ()), (0, begun, own))
            for deed in (("corner", 99), ("seat", (9, 9, 9)), ("chord", (), 0, 1), ("halve", slow.faces(turns)[0], (1, 0))):
                self.same(all_done(turns, own, (deed, ("corner", 0))), (0, begun, own))

    def test_twenty_vertices(self):
        dice = Random(14)
        full = made.stacked(dice, 20)
        own = home(full)
        face = [row for row in slow.faces(full) if len(row) == 3][0]
        self.check(seat(full, own, face), seat_by_hand(full, face))
        vertex = [a for a in range(20) if len(full[a]) == 3][0]
        self.check(cut_corner(full, own, vertex), cut_by_hand(full, vertex))
        edge = [pair for pair in pairs_on(face) if slow.can_halve(own[0], face, pair)][0]
        self.check(halve(full, own, face, edge), halve_by_hand(full, face, edge))
        thin = made.thinned(made.Map(5, 20, 60, True).turns, dice, 1, slow.firm)
        face = max(slow.faces(thin), key=len)
        got = outcome(chord, thin, home(thin), face, face[0], face[2])
        if isinstance(got[0], str):
            self.assertEqual(got[0], "CanNot")
        else:
            self.check(got, chord_by_hand(thin, face, face[0], face[2]))
