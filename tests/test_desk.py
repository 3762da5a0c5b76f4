"""Point [27], third part: desk.py."""

import re
from random import Random

from tests import made, slow
from tests.doors import DoorCase
from tests.test_edits import all_deeds
from tests.test_texts import blown_up, spoilt
from threefeet.desk import is_request, last_turns, last_walk, replies
from threefeet.homes import main
from threefeet.texts import graph_read, graph_text, turns_read, turns_text, walk_text
from threefeet.yards import Yard

FIRST_TEXT = "turns 4\n1 2 3\n0 3 2\n0 1 3\n0 2 1"
NUMERAL = "(?:0|[1-9][0-9]{0,8})"
FACE = f"{NUMERAL}(?: +{NUMERAL}){{2,}}"
REQUESTS = [f"seat +({FACE})", f"(halve|chord) +({FACE}) +by +({NUMERAL}) +({NUMERAL})", f"corner +({NUMERAL})",
            "(undo|redo|turns|walk|triples|deeds)"]


def is_request_slowly(x):
    if type(x) is not str:
        return False
    if re.fullmatch(" *(lay|main) *(\n(.|\n)*)?", x):
        return True
    return any(re.fullmatch(f" *{own} *", x) for own in REQUESTS)


def numbers(text):
    return tuple(int(word) for word in text.split(" ") if word)


def deed_of(text):
    """The deed that a request tells, by its pattern; None if it tells none."""
    got = re.fullmatch(f" *{REQUESTS[0]} *", text)
    if got:
        return "seat", numbers(got[1])
    got = re.fullmatch(f" *{REQUESTS[1]} *", text)
    if got:
        a, b = int(got[3]), int(got[4])
        return ("halve", numbers(got[2]), tuple(sorted((a, b)))) if got[1] == "halve" else ("chord", numbers(got[2]), a, b)
    got = re.fullmatch(f" *{REQUESTS[2]} *", text)
    return ("corner", int(got[1])) if got else None


def reply_slowly(yard, text):
    """By a Yard of the test's own."""
    if not is_request_slowly(text):
        return "refused BadText"
    word = text.split()[0]
    try:
        if word in ("undo", "redo"):
            getattr(yard, word)()
        elif word == "lay":
            yard.lay(turns_read(text.partition("\n")[2]))
        elif word == "main":
            graph = graph_read(text.partition("\n")[2])
            return "refused TooMany" if len(graph) > 16 else main(graph)[0]
        elif word == "turns":
            return turns_text(yard.turns())
        elif word == "walk":
            return walk_text(yard.walk())
        elif word == "triples":
            return "\n".join(" ".join(map(str, own)) for own in yard.triples()) if yard.triples() else "none"
        elif word == "deeds":
            return str(len(yard.deeds()))
        else:
            yard.do(deed_of(text))
    except (LookupError, ValueError) as error:
        return "refused " + type(error).__name__
    return "done"


def spread(text, dice):
    """The same request with more blanks between the words of its first line, ahead of them and behind."""
    head, feed, rest = text.partition("\n")
    words = "".join(" " * dice.randint(1, 3) + word for word in head.split(" "))
    return words[dice.randint(0, 1):] + " " * dice.randint(0, 2) + feed + rest


def request_of(deed, dice):
    word, *rest = deed
    if word == "corner":
        return f"corner {rest[0]}"
    face = " ".join(map(str, rest[0]))
    if word == "seat":
        return f"seat {face}"
    a, b = rest[1] if word == "halve" else rest[1:]
    if dice.random() < 0.5:
        a, b = b, a
    return f"{word} {face} by {a} {b}"


def random_request(dice, turns):
    """About these TURNS; good ones, refused ones and strings that are none."""
    way = dice.random()
    if way < 0.45:
        return request_of(dice.choice(all_deeds(turns)), dice)
    if way < 0.85:
        return dice.choice(("undo", "redo", "turns", "walk", "triples", "deeds", "undo", "redo"))
    if way < 0.92:
        own = made.stacked(dice, dice.randint(4, 8)) if dice.random() < 0.6 else made.Map(dice.random(), 6, 9).turns
        text = turns_text(own)
        return "lay\n" + (spoilt(text, dice) if dice.random() < 0.3 else blown_up(text, dice))
    text = graph_text(made.random_graph(dice.random(), dice.randint(0, 17), dice.choice((0.3, 0.7))))
    return "main\n" + (spoilt(text, dice) if dice.random() < 0.3 else blown_up(text, dice))


def rows_of_requests(many, length, seed):
    dice = Random(seed)
    found = []
    for _ in range(many):
        yard = Yard()
        row = []
        for _ in range(length):
            text = random_request(dice, yard.turns())
            text = spoilt(text, dice) if dice.random() < 0.05 else spread(text, dice) if dice.random() < 0.3 else text
            row.append(text)
            reply_slowly(yard, text)
        found.append(tuple(row))
    return found


class Replies(DoorCase):

    def check(self, requests):
        yard = Yard()
        due = tuple(reply_slowly(yard, text) for text in requests)
        self.same(replies(requests), due)
        self.same(last_turns(requests), yard.turns())
        self.same(last_walk(requests), yard.walk())
        return due

    def test_rows_of_requests(self):
        seen = set()
        for requests in rows_of_requests(25, 30, 1):
            due = self.check(requests)
            seen.update((text.split()[0] if text.split() else "", own.split()[-1]) for text, own in zip(requests, due))
        for own in (("seat", "done"), ("halve", "done"), ("corner", "done"), ("chord", "done"), ("lay", "done"), ("undo", "done"),
                    ("redo", "done"), ("main", "home"), ("main", "cut"), ("main", "forbidden"), ("main", "BadText"), ("main", "Unfit"),
                    ("lay", "BadText"), ("lay", "CanNot"), ("seat", "NoFace"), ("halve", "NoEdge"), ("chord", "NoVertex"),
                    ("corner", "NoVertex"), ("corner", "CanNot"), ("undo", "NothingDone"), ("redo", "NothingDone"), ("triples", "none")):
            self.assertIn(own, seen)

    def test_no_request(self):
        self.same(replies(()), ())
        self.same(last_turns(()), made.FOUR)
        self.assertEqual(sorted(last_walk(())), [0, 1, 2, 3])

    def test_what_is_asked(self):
        self.same(replies(("turns", "triples", "deeds", "main\ngraph 4\n0 1 2 3\n1 2 3\n2 3")), (FIRST_TEXT, "none", "0", "home"))
        walk = last_walk(("seat 0 1 3", "corner 2"))
        self.same(replies(("seat 0 1 3", "corner 2", "walk", "deeds"))[2:], (walk_text(walk), "2"))
        # A row of deeds with triples, told line by line.
        requests = tuple(f"corner {k}" for k in (0, 1, 2, 3)) + ("triples",)
        self.check(requests)
        for requests in rows_of_requests(12, 12, 2):
            told = replies(requests + ("triples", "turns", "walk"))[-3:]
            self.same(turns_read(told[1]), last_turns(requests))
            self.same(told[2], "walk " + " ".join(map(str, last_walk(requests))))
            rows = () if told[0] == "none" else tuple(numbers(line) for line in told[0].split("\n"))
            self.assertTrue(slow.is_home(slow.graph_in(last_turns(requests)), (last_walk(requests), rows)))

    def test_triples(self):
        """A drawing in which no walk comes but once: lines of three numbers."""
        turns = made.FOUR
        for face in slow.faces(turns):
            turns = made.starred(turns, face, face)
        for face in slow.faces(turns):
            turns = made.starred(turns, face, face)
        told = replies(("lay\n" + turns_text(turns), "triples", "deeds"))
        self.same((told[0], told[2]), ("done", "0"))
        for line in told[1].split("\n"):
            self.assertTrue(re.fullmatch("[0-9]+ [0-9]+ [0-9]+", line))
        rows = tuple(numbers(line) for line in told[1].split("\n"))
        walk = last_walk(("lay\n" + turns_text(turns),))
        self.assertTrue(slow.is_home(slow.graph_in(turns), (walk, rows)))

    def test_either_order_and_alike(self):
        for text, due in (("halve 0 1 3 by 0 1", "done"), ("halve 0 1 3 by 1 0", "done"), ("halve 1 3 0 by 3 1", "done"), ("halve 0 1 3 by 1 1", "refused NoEdge"),
                          ("halve 0 1 3 by 1 2", "refused NoEdge"), ("halve 0 1 2 by 1 1", "refused NoFace"), ("chord 0 1 3 by 1 1", "refused CanNot"),
                          ("chord 0 1 3 by 0 1", "refused CanNot"), ("chord 0 1 3 by 2 2", "refused NoVertex"), ("chord 0 1 2 by 9 9", "refused NoFace"),
                          ("seat 0 1 3 2", "refused NoFace"), ("corner 4", "refused NoVertex"), ("corner 999999999", "refused NoVertex"),
                          ("corner 1000000000", "refused BadText"), ("seat 0 1 999999999", "refused NoFace"), ("seat 0 1 03", "refused BadText")):
            self.same(replies((text,)), (due,))
        self.same(last_turns(("halve 0 1 3 by 0 1",)), last_turns(("halve 0 1 3 by 1 0",)))
        self.same(last_turns(("chord 0 1 3 by 1 1",)), made.FOUR)

    def test_blanks_and_line_feeds(self):
        for text, due in (("  undo ", "refused NothingDone"), ("undo\n", "refused BadText"), ("undo\n\n", "refused BadText"), ("\nundo", "refused BadText"),
                          ("  seat   0  1   3 ", "done"), ("seat 0 1 3\n", "refused BadText"), ("seat\n0 1 3", "refused BadText"), ("deeds ", "0"),
                          ("turns\n", "refused BadText"), ("seat\t0 1 3", "refused BadText"), ("undo\r", "refused BadText"),
                          (" lay \n" + FIRST_TEXT, "done"), ("lay\n\n " + FIRST_TEXT + "\n", "done"), ("lay", "refused BadText"), ("lay\n", "refused BadText"),
                          ("\nlay\n" + FIRST_TEXT, "refused BadText"), ("lay " + FIRST_TEXT, "refused BadText"), ("lay\n" + FIRST_TEXT + "\n0", "refused BadText"),
                          ("main", "refused BadText"), ("main\n", "refused BadText"), (" main\ngraph 4", "cut"), ("main\n\n\ngraph  4 \n", "cut"),
                          ("main graph 4", "refused BadText"), ("main\ngraph 4\n1 0", "refused BadText"), ("", "refused BadText"), (" ", "refused BadText"),
                          ("\n", "refused BadText")):
            self.same(replies((text,)), (due,))

    def test_main(self):
        for graph, due in ((made.complete(5), "forbidden"), (made.complete(4), "home"), (made.ring_graph(16), "cut"), (made.complete(16), "forbidden"),
                           (made.ring_graph(17), "refused TooMany"), (((),) * 40, "refused TooMany"), (made.complete(3), "refused Unfit"), ((), "refused Unfit"),
                           (slow.graph_in(made.stacked(Random(3), 16)), "home"), (slow.graph_in(made.stacked(Random(3), 17)), "refused TooMany")):
            self.same(replies(("main\n" + graph_text(graph), "deeds")), (due, "0"))
        self.same(replies(("main\ngraph 41",)), ("refused BadText",))

    def test_lay(self):
        for turns, due in ((made.stacked(Random(4), 20), "done"), (made.drum(11), "refused TooMany"), (made.ring_graph(40), "refused TooMany"),
                           (made.ring_graph(20), "refused CanNot"), (((),), "refused CanNot"), (made.complete(4), "refused CanNot"), (made.drum(10), "done")):
            requests = ("lay\n" + turns_text(made.begun_elsewhere(turns, 2)),)
            self.same(replies(requests), (due,))
            self.same(last_turns(requests), slow.begun(turns) if due == "done" else made.FOUR)
        self.same(replies(("lay\nturns 0", "lay\nturns 41", "lay\nturns 2\n1\n1", "lay\nturns 2\n1")),
                  ("refused CanNot",) + ("refused BadText",) * 3)

    def test_twenty_vertices(self):
        turns = made.stacked(Random(5), 20)
        face = [own for own in slow.faces(turns) if len(own) == 3][0]
        vertex = [a for a in range(20) if len(turns[a]) == 3][0]
        told = replies(("lay\n" + turns_text(turns), "seat " + " ".join(map(str, face)), f"corner {vertex}", "corner 20", "undo", "redo", "deeds"))
        self.same(told, ("done", "refused TooMany", "refused TooMany", "refused NoVertex", "done", "done", "0"))


class Requests(DoorCase):

    def test_strings(self):
        dice = Random(6)
        lot = [text for row in rows_of_requests(12, 30, 6) for text in row]
        seen = set()
        for text in lot:
            for own in (text, spoilt(text, dice) or " ", spread(text, dice), text + " ", text + "\n"):
                due = is_request_slowly(own)
                self.assertIs(is_request(own), due, own)
                seen.add(due)
        self.assertEqual(seen, {True, False})

    def test_each_form(self):
        for text, due in (("seat 0 1 2", True), ("seat 0 1", False), ("seat 0 1 2 3 4 5 6", True), ("seat", False), ("seat 0 1 2 by 0 1", False),
                          ("seat 0 1 x", False), ("halve 0 1 2 by 0 1", True), ("halve 0 1 by 0 1", False), ("halve 0 1 2 by 0", False),
                          ("halve 0 1 2 by 0 1 2", False), ("halve 0 1 2 0 1", False), ("halve by 0 1", False), ("halve 0 1 2 by by 0 1", False),
                          ("halve 0 1 3 by 1 1", True), ("chord 0 1 2 by 9 9", True), ("chord 0 1 2 3 by 2 0", True), ("chord 0 1 2 by 0 01", False),
                          ("corner 0", True), ("corner", False), ("corner 0 1", False), ("corner 0 1 2", False), ("fly 0 1 2", False), ("corner 0 1 2 by 0 1", False), ("corner -1", False), ("corner 999999999", True), ("corner 1000000000", False),
                          ("corner 00", False), ("corner \u0663", False), ("corner x", False), ("undo", True), ("redo", True), ("turns", True), ("walk", True), ("triples", True),
                          ("deeds", True), ("undo 1", False), ("Undo", False), ("turns turns", False), ("lay", True), ("lay\n", True), ("lay\nwhatever\n\n x", True),
                          ("lay x", False), ("lay\r\n", False), ("main", True), ("main\n\n", True), ("main 4", False), ("mainly", False), ("", False), ("   ", False), ("\n", False),
                          ("walk 0 1", False), ("seat 0 1 2\n", False), (" walk ", True)):
            self.assertIs(is_request_slowly(text), due, text)
            self.assertIs(is_request(text), due, text)

    def test_other_things(self):
        things = list(made.OTHERS) + [("undo",), ["undo"], (("undo",),), 7, b"undo", None]
        for thing in things:
            self.assertIs(is_request(thing), False, thing)
