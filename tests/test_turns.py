"""Point [6]: turns.py."""

from random import Random

from tests import made, slow
from tests.doors import DoorCase
from threefeet.turns import (
    are_same, begun, euler, face_of, faces, faces_at, graph_in, halved, is_plane, is_turns, mirrored, with_chord,
    with_star, without_edge)

FOUR = ((1, 2, 3), (0, 3, 2), (0, 1, 3), (0, 2, 1))
ODD = ((1, 2, 3), (0, 2, 3), (0, 1, 3), (0, 1, 2))
TREE = ((1,), (0, 2, 3), (1,), (1,))


def any_turns(many, most, seed):
    """Turns that are seldom plane, of one piece and more, begun anywhere."""
    dice = Random(seed)
    found = []
    for graph in made.many_graphs(most, many, seed):
        rows = []
        for row in graph:
            mixed = list(row)
            dice.shuffle(mixed)
            rows.append(tuple(mixed))
        found.append(tuple(rows))
    return found


def one_piece(lot):
    return [turns for turns in lot if len(slow.pieces(slow.graph_in(turns))) == 1]


def drawn(many, most, seed):
    return [own.turns for own in made.plane_maps(many, 1, most, seed)]


def put(turns, face, b, c):
    """The turn of b with c behind the vertex that comes ahead of b in face."""
    before = face[face.index(b) - 1]
    row = turns[b]
    at = row.index(before) + 1
    return row[:at] + (c,) + row[at:]


def replaced(turns, news):
    return slow.begun(tuple(news.get(a, row) for a, row in enumerate(turns)))


class Judges(DoorCase):

    def test_is_turns_and_is_plane(self):
        turned, plane = set(), set()
        for turns in any_turns(40, 5, 1) + drawn(40, 6, 1) + [FOUR, ODD, TREE]:
            things = made.wrong(turns, 120) + [turns]
            turned |= self.judged(is_turns, slow.is_turns, things)
            plane |= self.judged(is_plane, slow.is_plane, things)
        self.assertEqual((turned, plane), ({True, False}, {True, False}))

    def test_all_turns_of_small_graphs(self):
        for graph in made.small_graphs(4):
            for turns in slow.all_turns(graph):
                self.assertIs(is_turns(turns), True)
                self.assertIs(is_plane(turns), slow.is_plane(turns))

    def test_things_that_lack_one_condition(self):
        for thing in (((1,), ()), ((1, 1), (0, 0)), ((0,),), ((2, 1), (0,), ()), ((1,), (0, 2)), [(1,), (0,)],
                      ([1], (0,)), ((True,), (0,)), ((1,), (False,)), ((1,), (0,), 3), ((-1,), (0,)), None, "", 0):
            self.assertIs(is_turns(thing), False, thing)
            self.assertIs(is_plane(thing), False, thing)
        # The numbers of ODD and of a vertex alone, added up, would be those of a drawing.
        for thing in ((), ((), ()), ODD, ODD + ((),), ((1,), (0,), (3,), (2,))):
            self.assertIs(is_turns(thing), True, thing)
            self.assertIs(is_plane(thing), False, thing)
        for thing in (((),), ((1,), (0,)), FOUR, TREE, ((2, 3, 1), (0, 3, 2), (3, 0, 1), (0, 2, 1))):
            self.assertIs(is_plane(thing), True, thing)

    def test_of_however_many_vertices(self):
        size = 3000
        line = tuple(tuple(b for b in (a - 1, a + 1) if 0 <= b < size) for a in range(size))
        star = (tuple(range(1, size)),) + ((0,),) * (size - 1)
        for thing in (line, star, made.ring_graph(size)):
            self.assertIs(is_turns(thing), True)
            self.assertIs(is_plane(thing), True)
        self.assertIs(is_plane(line[:-1] + ((),)), False)


class Faces(DoorCase):

    def test_faces(self):
        for turns in one_piece(any_turns(150, 7, 2)) + drawn(60, 9, 2) + [((),)]:
            got = faces(turns)
            self.same(got, slow.faces(turns))
            n, m = len(turns), len(slow.edges(slow.graph_in(turns)))
            self.same(euler(turns), n - m + slow.count_faces(turns))
            self.assertLessEqual(euler(turns), 2)
            self.assertEqual(euler(turns) % 2, 0)
            self.assertIs(is_plane(turns), euler(turns) == 2)
            mirror = slow.faces(mirrored(turns))
            self.same(mirror, tuple(sorted(slow.from_least(own[::-1]) for own in got)))

    def test_face_of_and_faces_at(self):
        for turns in any_turns(60, 7, 3) + drawn(40, 9, 3):
            n = len(turns)
            for a in range(n):
                for b in range(n):
                    if b in turns[a]:
                        self.same(face_of(turns, a, b), slow.face(turns, a, b))
                    else:
                        self.raises(f"NoEdge({(min(a, b), max(a, b))})", face_of, turns, a, b)
        for turns in one_piece(any_turns(60, 7, 4)):
            for a, row in enumerate(slow.begun(turns)):
                self.same(faces_at(turns, a), tuple(slow.face(turns, a, b) for b in row))

    def test_a_face_that_goes_over_an_edge_both_ways(self):
        self.same(faces(TREE), ((0, 1, 2, 1, 3, 1),))
        self.same(face_of(TREE, 2, 1), (0, 1, 2, 1, 3, 1))
        self.same(faces_at(TREE, 1), ((0, 1, 2, 1, 3, 1),) * 3)
        self.same(euler(TREE), 2)
        self.same(faces(ODD), ((0, 1, 2, 3), (0, 2, 1, 3, 2, 0, 3, 1)))

    def test_a_vertex_alone(self):
        self.same((faces(((),)), euler(((),)), faces_at(((),), 0)), (((),), 2, ()))

    def test_as_great_as_the_bounds(self):
        turns = made.Map(5, 40, 114, True).turns
        self.same(faces(turns), slow.faces(turns))
        self.same(len(faces(turns)), 76)
        self.assertTrue(is_plane(turns))
        star = (tuple(range(1, 40)),) + ((0,),) * 39
        self.same(faces(star), (tuple(a for k in range(1, 40) for a in (0, k)),))


class Begun(DoorCase):

    def test_begun_and_graph_in(self):
        for turns in any_turns(60, 7, 5):
            shifted = tuple(made.shifted(row, k + 1) for k, row in enumerate(turns))
            self.same(begun(turns), slow.begun(turns))
            self.same(begun(shifted), slow.begun(turns))
            self.same(graph_in(shifted), slow.graph_in(turns))
            self.assertIs(are_same(turns, shifted), True)
            self.same(mirrored(shifted), slow.begun(tuple(row[::-1] for row in turns)))
            self.same(mirrored(mirrored(turns)), slow.begun(turns))
        self.assertIs(are_same(FOUR, ODD), False)
        self.assertIs(are_same(FOUR, FOUR[:3]), False)
        self.same((begun(()), mirrored(()), graph_in(()), begun(((),))), ((), (), (), ((),)))


class Changes(DoorCase):

    def test_with_chord(self):
        """Each chord of each face, the face begun anywhere."""
        done = 0
        for turns in one_piece(any_turns(40, 6, 6)) + drawn(40, 8, 6):
            for k, face in enumerate(slow.faces(turns)):
                done += self.check_chords(turns, made.shifted(face, k))
        self.assertGreater(done, 100)

    def check_chords(self, turns, face):
        done = 0
        for a in range(len(turns) + 1):
            for b in range(len(turns) + 1):
                off = [c for c in (a, b) if c not in face]
                if off:
                    self.raises(f"NoVertex({off[0]})", with_chord, turns, face, a, b)
                elif not slow.is_cycle(slow.graph_in(turns), face) or a == b or b in turns[a]:
                    self.raises("CanNot()", with_chord, turns, face, a, b)
                else:
                    due = replaced(turns, {a: put(turns, face, a, b), b: put(turns, face, b, a)})
                    got = with_chord(turns, face, a, b)
                    self.same(got, due)
                    self.assertIs(slow.is_plane(got), slow.is_plane(turns))
                    done += 1
        return done

    def test_with_star(self):
        dice = Random(7)
        done = 0
        for turns in one_piece(any_turns(40, 6, 7)) + drawn(40, 8, 7):
            for k, face in enumerate(slow.faces(turns)):
                face = made.shifted(face, k + 1)
                on = sorted(set(face))
                if not slow.is_cycle(slow.graph_in(turns), face):
                    if len(on) > 1:
                        self.raises("CanNot()", with_star, turns, face, tuple(on))
                    continue
                for _ in range(4):
                    ends = tuple(sorted(dice.sample(on, dice.randint(2, len(on)))))
                    self.check_star(turns, face, ends)
                    done += 1
        self.assertGreater(done, 100)

    def check_star(self, turns, face, ends):
        n = len(turns)
        news = {b: put(turns, face, b, n) for b in ends}
        due = replaced(turns, news) + (slow.from_least(tuple(b for b in face[::-1] if b in ends)),)
        got = with_star(turns, face, ends)
        self.same(got, due)
        self.assertIs(slow.is_plane(got), slow.is_plane(turns))

    def test_firm_drawings_stay_firm(self):
        for turns in made.firm_maps(20, 5, 8, 8):
            for face in slow.faces(turns):
                if len(face) > 3:
                    got = with_chord(turns, face, face[0], face[2])
                    self.assertTrue(slow.firm(slow.graph_in(got)))
                got = with_star(turns, face, tuple(sorted(face[:3])))
                self.assertTrue(slow.firm(slow.graph_in(got)))

    def test_halved_and_without_edge(self):
        for turns in any_turns(60, 6, 9) + drawn(40, 8, 9):
            n = len(turns)
            for a, b in slow.edges(slow.graph_in(turns)):
                rows = {a: tuple(n if c == b else c for c in turns[a]), b: tuple(n if c == a else c for c in turns[b])}
                self.same(halved(turns, (a, b)), replaced(turns, rows) + ((a, b),))
                got = without_edge(turns, (a, b))
                self.same(got, made.dropped(turns, (a, b)))
                if slow.is_plane(turns):
                    self.assertTrue(slow.is_plane(halved(turns, (a, b))))
                    two = slow.face(turns, a, b) != slow.face(turns, b, a)
                    self.assertIs(slow.is_plane(got), two)


class Doors(DoorCase):

    def test_no_edge(self):
        for function in (halved, without_edge):
            for edge in ((1, 0), (0, 2), (0, 0), (2, 9), (9, 10)):
                self.raises(f"NoEdge({edge})", function, ((1,), (0, 2), (1,)), edge)
        self.raises("NoEdge((0, 2))", face_of, ((1,), (0, 2), (1,)), 2, 0)
        self.raises("NoEdge((1, 9))", face_of, ((1,), (0, 2), (1,)), 9, 1)
        self.raises("NoEdge((1, 1))", face_of, ((1,), (0, 2), (1,)), 1, 1)
        self.raises("NoEdge((5, 5))", face_of, (), 5, 5)

    def test_no_vertex(self):
        self.raises("NoVertex(4)", faces_at, FOUR, 4)
        self.raises("NoVertex(1)", faces_at, ((),), 1)

    def test_no_face(self):
        wrong = ((0, 2, 3, 1), (0, 3, 1), (0,), (), (0, 1), (0, 1, 3, 0, 1, 3), (9, 0, 1), (0, 9), (1, 3))
        for face in wrong:
            self.raises(f"NoFace({face})", with_chord, FOUR, face, 8, 9)
            self.raises(f"NoFace({face})", with_star, FOUR, face, (8, 9))

    def test_the_first_error_alone(self):
        self.raises("NoVertex(2)", with_chord, FOUR, (0, 1, 3), 2, 9)
        self.raises("NoVertex(9)", with_chord, FOUR, (0, 1, 3), 0, 9)
        self.raises("CanNot()", with_chord, FOUR, (1, 3, 0), 0, 1)
        self.raises("CanNot()", with_chord, FOUR, (1, 3, 0), 0, 0)
        self.raises("CanNot()", with_chord, TREE, (1, 2, 1, 3, 1, 0), 2, 3)
        self.raises("NoVertex(4)", with_chord, TREE, (1, 2, 1, 3, 1, 0), 2, 4)
        self.raises("NoVertex(2)", with_star, FOUR, (0, 1, 3), (0, 2, 9))
        self.raises("NoVertex(9)", with_star, TREE, (0, 1, 2, 1, 3, 1), (0, 9))
        self.raises("CanNot()", with_star, TREE, (0, 1, 2, 1, 3, 1), (2, 3))
        self.raises("NoVertex(0)", with_chord, ((),), (), 0, 0)
        self.raises("NoVertex(0)", with_star, ((),), (), (0, 1))
        self.raises("NoFace((0,))", with_chord, ((),), (0,), 0, 0)
        self.raises("NoFace((0,))", with_star, ((),), (0,), (0, 1))
        self.raises("CanNot()", with_star, ((1,), (0,)), (1, 0), (0, 1))
