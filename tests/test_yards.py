"""Point [27], second part: yards.py."""

from random import Random

from tests import made, slow
from tests.doors import DoorCase
from tests.test_edits import all_deeds, outcome
from threefeet import errors
from threefeet.edits import deed_done
from threefeet.yards import Yard

FIRST = made.FOUR


def held(yard):
    return yard.turns(), yard.walk(), yard.triples(), yard.deeds()


class YardCase(DoorCase):

    def check(self, yard):
        """It holds PLANE TURNS of connectivity 3 or more, of twenty vertices at most, and a HOME of them."""
        turns = yard.turns()
        graph = slow.graph_in(turns)
        self.same(turns, slow.begun(turns))
        self.assertTrue(slow.is_plane(turns) and slow.firm(graph) and len(turns) <= 20)
        self.assertTrue(slow.is_home(graph, (yard.walk(), yard.triples())))

    def refused(self, told, yard, name, *args):
        before = held(yard)
        self.raises(told, getattr(yard, name), *args)
        self.same(held(yard), before)


class Steps(YardCase):

    def test_a_new_one(self):
        yard = Yard()
        self.check(yard)
        self.same((yard.turns(), yard.triples(), yard.deeds()), (FIRST, (), ()))
        self.refused("NothingDone()", yard, "undo")
        self.refused("NothingDone()", yard, "redo")
        self.same(held(Yard()), held(yard))

    def test_against_a_plain_list_of_what_was_done(self):
        seen = set()
        for seed in range(14):
            dice = Random(seed)
            yard = Yard()
            # What was held step by step, and the place of what is held now.
            rows, at = [held(yard)], 0
            for _ in range(60):
                way = dice.choice(("do", "do", "do", "undo", "redo", "undo", "lay", "bad"))
                before = held(yard)
                if way == "undo" or way == "redo":
                    step = -1 if way == "undo" else 1
                    if 0 <= at + step < len(rows):
                        self.assertIsNone(getattr(yard, way)())
                        at += step
                    else:
                        self.refused("NothingDone()", yard, way)
                        way += " refused"
                elif way == "lay":
                    turns = made.begun_elsewhere(made.stacked(dice, dice.randint(4, 9)), dice.randrange(5))
                    yard.lay(turns)
                    self.same((yard.turns(), yard.deeds()), (slow.begun(turns), ()))
                    rows, at = rows[:at + 1] + [held(yard)], at + 1
                else:
                    deed = dice.choice(all_deeds(before[0]))
                    due = outcome(deed_done, before[0], before[1:3], deed)
                    if isinstance(due[0], str):
                        way = "bad"
                        with self.assertRaises(getattr(errors, due[0])):
                            yard.do(deed)
                    elif len(due[0]) > 20:
                        way = "too many"
                        self.refused("TooMany()", yard, "do", deed)
                    else:
                        way = "done"
                        yard.do(deed)
                        self.same(held(yard), (due[0], *due[1], before[3] + (deed,)))
                        rows, at = rows[:at + 1] + [held(yard)], at + 1
                self.same(held(yard), rows[at])
                self.check(yard)
                seen.add(way)
        self.assertLessEqual({"undo", "redo", "undo refused", "redo refused", "lay", "bad", "done"}, seen)

    def test_refused_calls_drop_nothing(self):
        yard = Yard()
        yard.do(("seat", (0, 1, 3)))
        yard.do(("corner", 4))
        two = held(yard)
        yard.undo()
        one = held(yard)
        for name, args, told in (("do", (("seat", (0, 1, 3)),), "NoFace((0, 1, 3))"), ("do", (("corner", 0),), "CanNot()"),
                                 ("do", (("corner", 9),), "NoVertex(9)"), ("lay", (made.ring_graph(4),), "CanNot()"),
                                 ("lay", (made.drum(11),), "TooMany()"), ("do", (("chord", (0, 1, 4), 0, 0),), "CanNot()"),
                                 ("do", (("halve", (0, 1, 4), (1, 0)),), "NoEdge((1, 0))")):
            self.refused(told, yard, name, *args)
        self.same(held(yard), one)
        yard.redo()
        self.same(held(yard), two)
        self.refused("NothingDone()", yard, "redo")

    def test_what_is_done_drops_what_could_be_done_again(self):
        for name, value in (("do", ("corner", 0)), ("lay", made.drum(3))):
            yard = Yard()
            yard.do(("seat", (0, 1, 3)))
            yard.undo()
            getattr(yard, name)(value)
            self.refused("NothingDone()", yard, "redo")
            yard.undo()
            self.same(yard.turns(), FIRST)
            yard.redo()
            self.refused("NothingDone()", yard, "redo")

    def test_undo_and_redo_behind_lay_again_and_again(self):
        yard = Yard()
        rows = [held(yard)]
        for turns in (made.drum(4), made.stacked(Random(1), 12), FIRST):
            yard.lay(turns)
            rows.append(held(yard))
            deed = ("corner", [a for a, row in enumerate(turns) if len(row) == 3][0]) if turns != made.drum(4) else (
                "seat", [face for face in slow.faces(turns) if len(face) == 3][0])
            yard.do(deed)
            self.same(yard.deeds(), (deed,))
            rows.append(held(yard))
        for _ in range(3):
            for row in rows[-2::-1]:
                yard.undo()
                self.same(held(yard), row)
            self.refused("NothingDone()", yard, "undo")
            for row in rows[1:]:
                yard.redo()
                self.same(held(yard), row)
            self.refused("NothingDone()", yard, "redo")

    def test_deeds_as_they_were_passed_in(self):
        yard = Yard()
        lot = (("seat", (3, 0, 1)), ("halve", (4, 0, 1), (0, 1)), ("corner", 5))
        for deed in lot:
            yard.do(deed)
        self.same(yard.deeds(), lot)
        yard.undo()
        self.same(yard.deeds(), lot[:2])

    def test_two_yards_do_not_touch_one_another(self):
        one, other = Yard(), Yard()
        before = held(other)
        one.do(("corner", 0))
        self.same(held(other), before)
        self.refused("NothingDone()", other, "undo")
        kept = one.turns()
        one.undo()
        self.assertEqual(len(kept), 6)


class Bounds(YardCase):

    def test_twenty_vertices(self):
        """A chord may still be put in; what brings more is refused behind all that a deed raises."""
        dice = Random(2)
        yard = Yard()
        turns = made.stacked(dice, 20)
        yard.lay(turns)
        self.check(yard)
        face = [own for own in slow.faces(turns) if len(own) == 3][0]
        vertex = [a for a in range(20) if len(turns[a]) == 3][0]
        self.refused("TooMany()", yard, "do", ("seat", face))
        self.refused("TooMany()", yard, "do", ("corner", vertex))
        self.refused("NoFace((0, 20, 1))", yard, "do", ("seat", (0, 20, 1)))
        self.refused("NoVertex(20)", yard, "do", ("corner", 20))
        many = [a for a in range(20) if len(turns[a]) > 3][0]
        self.refused("CanNot()", yard, "do", ("corner", many))
        edges = [tuple(sorted(dart)) for dart in slow.darts(face)]
        for edge in edges:
            told = "TooMany()" if slow.can_halve(yard.walk(), face, edge) else "CanNot()"
            self.refused(told, yard, "do", ("halve", face, edge))
            self.refused(f"NoEdge({edge[::-1]})", yard, "do", ("halve", face, edge[::-1]))
        thin = made.drum(10)
        yard.lay(thin)
        face = [own for own in slow.faces(thin) if len(own) == 10][0]
        yard.do(("chord", face, face[0], face[4]))
        self.check(yard)
        yard.do(("chord", face_with(yard.turns(), face[5:9]), face[5], face[8]))
        self.check(yard)
        self.assertEqual(len(yard.deeds()), 2)

    def test_nineteen_and_eighteen(self):
        dice = Random(3)
        for n, told in ((19, "TooMany()"), (18, None)):
            turns = made.stacked(dice, n)
            yard = Yard()
            yard.lay(turns)
            vertex = [a for a in range(n) if len(turns[a]) == 3][0]
            if told:
                self.refused(told, yard, "do", ("corner", vertex))
                face = [own for own in slow.faces(turns) if len(own) == 3 and slow.can_seat(yard.walk(), own)][0]
                yard.do(("seat", face))
            else:
                yard.do(("corner", vertex))
            self.assertEqual(len(yard.turns()), 20)
            self.check(yard)

    def test_lay(self):
        """More than twenty vertices are told ahead of a connectivity that is too low."""
        yard = Yard()
        for turns in (made.ring_graph(21), made.drum(11), made.ring_graph(40), tuple(((k - 1, k + 1) if 0 < k < 20 else (abs(k - 1),)) for k in range(21))):
            self.refused("TooMany()", yard, "lay", turns)
        for turns in (((),), ((1,), (0,)), ((1, 2), (2, 0), (0, 1)), made.ring_graph(20), made.ring_graph(4)):
            self.refused("CanNot()", yard, "lay", turns)
        bad = [own.turns for own in made.plane_maps(40, 1, 8, 4) if not slow.firm(own.graph)]
        for turns in bad:
            self.refused("CanNot()", yard, "lay", turns)
        for k, turns in enumerate(made.firm_maps(12, 4, 10, 4) + [made.drum(10), made.stacked(Random(5), 20)]):
            yard.lay(made.begun_elsewhere(turns, k))
            self.same((yard.turns(), yard.deeds()), (slow.begun(turns), ()))
            self.check(yard)


def face_with(turns, vertices):
    return [own for own in slow.faces(turns) if set(vertices) <= set(own)][0]
