"""Point [27], first part: texts.py."""

import re
from random import Random

from tests import made, slow
from tests.doors import DoorCase
from threefeet.texts import graph_read, graph_text, turns_read, turns_text, walk_read, walk_text

NUMERAL = re.compile("0|[1-9][0-9]{0,8}")


class Bad(Exception):
    """A line is bad."""


def rows_of(text):
    """The place and the words of each line that has words."""
    rows = [(k, re.findall("[^ ]+", line)) for k, line in enumerate(re.split("\n", text))]
    return len(rows), [row for row in rows if row[1]]


def value(word, place):
    if not NUMERAL.fullmatch(word):
        raise Bad(place)
    return int(word)


def first_line(text, word):
    many, rows = rows_of(text)
    if not rows:
        raise Bad(many)
    place, words = rows[0]
    if words[0] != word:
        raise Bad(place)
    return many, rows, place, words


def size_of(text, word):
    many, rows, place, words = first_line(text, word)
    if len(words) != 2 or value(words[1], place) > 40:
        raise Bad(place)
    return many, rows, int(words[1])


def graph_slowly(text):
    _, rows, size = size_of(text, "graph")
    pairs = []
    last = -1
    for place, words in rows[1:]:
        row = [value(word, place) for word in words]
        if row[0] <= last or len(row) == 1 or row != sorted(set(row)) or not set(row) <= set(range(size)):
            raise Bad(place)
        last = row[0]
        pairs += [(last, b) for b in row[1:]]
    return slow.made(size, pairs)


def turns_slowly(text):
    """The rows, also if they are no PLANE TURNS."""
    many, rows, size = size_of(text, "turns")
    found = []
    for place, words in rows[1:]:
        if len(found) == size:
            raise Bad(place)
        row = [] if words == ["-"] else [value(word, place) for word in words]
        if len(set(row)) < len(row) or len(found) in row or not set(row) <= set(range(size)):
            raise Bad(place)
        found.append(tuple(row))
    if len(found) < size:
        raise Bad(many)
    return tuple(found)


def walk_slowly(text):
    _, rows, place, words = first_line(text, "walk")
    row = tuple(value(word, place) for word in words[1:])
    if not row:
        raise Bad(place)
    if len(rows) > 1:
        raise Bad(rows[1][0])
    return row


def blown_up(text, dice):
    """The same text with blanks and lines without words."""
    lines = []
    for line in text.split("\n"):
        while dice.random() < 0.3:
            lines.append(" " * dice.randint(0, 3))
        lines.append("".join(" " * dice.randint(0, 2) + " " * (k > 0) + word for k, word in enumerate(line.split(" "))) + " " * dice.randint(0, 2))
    while dice.random() < 0.3:
        lines.append("")
    return "\n".join(lines)


WORDS = ("", "-", "0", "1", "2", "3", "9", "00", "01", "40", "41", "999999999", "1000000000", "0000000001", "-1", "+1", "1.0", "1_0", "x",
         "graph", "turns", "walk", "Graph", "\t", "1\t2", "\r", "\u0663", "\u00b2", "1,", "1e1", "0x1", "True", "\x0b", "\u2028", "\xa0")


def spoilt(text, dice):
    """The text with a word or a line put in, taken out, doubled or exchanged."""
    lines = [line.split(" ") for line in text.split("\n")]
    line = dice.choice(lines)
    k = dice.randrange(len(line))
    way = dice.randrange(8)
    if way == 0:
        line[k] = dice.choice(WORDS)
    elif way == 1:
        line.insert(k, dice.choice(WORDS))
    elif way == 2:
        line.pop(k)
    elif way == 3:
        line.append(line[k])
    elif way == 4:
        lines.insert(dice.randrange(len(lines) + 1), [dice.choice(WORDS)] + line[:dice.randint(0, 2)])
    elif way == 5:
        lines.remove(line)
    elif way == 6:
        lines.append(list(line))
    else:
        dice.shuffle(line)
    return "\n".join(" ".join(own) for own in lines)


def drawings(many, seed):
    lot = [own.turns for own in made.plane_maps(many, 1, 12, seed)]
    return [made.begun_elsewhere(turns, k) for k, turns in enumerate(lot)] + [((),), ((1,), (0,)), made.drum(20), made.ring_graph(40)]


def graphs(many, seed):
    return made.many_graphs(12, many, seed) + [(), ((),), ((),) * 40, made.complete(15), made.ring_graph(40)]


class There(DoorCase):

    def test_the_text_of_a_graph(self):
        for graph in graphs(80, 1):
            lines = [f"graph {len(graph)}"]
            for a in range(len(graph)):
                above = [str(b) for b in range(a, len(graph)) if b in graph[a]]
                lines += [" ".join([str(a)] + above)] if above else []
            self.same(graph_text(graph), "\n".join(lines))

    def test_the_text_of_turns(self):
        for turns in drawings(60, 2) + [made.complete(5), ((), ()), ()]:
            due = f"turns {len(turns)}"
            for row in turns:
                due += "\n" + (" ".join(map(str, row)) or "-")
            self.same(turns_text(turns), due)
        self.same(turns_text(((2, 1), (0, 2), (1, 0))), "turns 3\n2 1\n0 2\n1 0")

    def test_the_text_of_a_walk(self):
        for _, walk in made.random_walks(40, 2, 9, 3):
            self.same(walk_text(walk), "walk " + " ".join(map(str, walk)))
        self.same(walk_text((0,)), "walk 0")


class Back(DoorCase):

    def test_there_and_back(self):
        dice = Random(4)
        for graph in graphs(120, 4):
            for text in (graph_text(graph), blown_up(graph_text(graph), dice), blown_up(graph_text(graph), dice)):
                self.same(graph_read(text), graph)
        for turns in drawings(90, 4):
            for text in (turns_text(turns), blown_up(turns_text(turns), dice), blown_up(turns_text(turns), dice)):
                self.same(turns_read(text), slow.begun(turns))
        for _, walk in made.random_walks(60, 2, 9, 4) + [((), (0,)), ((), (999999999, 0, 0, 7))]:
            for text in (walk_text(walk), blown_up(walk_text(walk), dice)):
                self.same(walk_read(text), walk)

    def check(self, function, slowly, text):
        """The same answer, or the same line that is bad."""
        try:
            due = slowly(text)
        except Bad as error:
            self.raises(f"BadText({error.args[0]})", function, text)
            return "bad"
        if function is turns_read and not slow.is_plane(due):
            self.raises("CanNot()", function, text)
            return "cannot"
        self.same(function(text), slow.begun(due) if function is turns_read else due)
        return "good"

    def test_spoilt_texts(self):
        dice = Random(5)
        kinds = ((graph_read, graph_slowly, graph_text, graphs(60, 5)[:60], {"good", "bad"}),
                 (turns_read, turns_slowly, turns_text, drawings(60, 5)[:60] + [((),), ((1,), (0,))], {"good", "bad", "cannot"}),
                 (walk_read, walk_slowly, walk_text, [walk for _, walk in made.random_walks(50, 2, 9, 5)], {"good", "bad"}))
        for function, slowly, told, lot, due in kinds:
            seen = set()
            for own in lot:
                for _ in range(25):
                    text = told(own)
                    for _ in range(dice.choice((1, 1, 2, 3))):
                        text = spoilt(text, dice) or " "
                    seen.add(self.check(function, slowly, text))
                    seen.add(self.check(function, slowly, blown_up(text, dice)))
                    for other, other_slowly, *_ in kinds:
                        self.check(other, other_slowly, text)
            self.assertEqual(seen, due)

    def test_texts_without_a_line(self):
        for text, line in (("", 1), (" ", 1), ("\n", 2), ("  \n \n", 3), ("\n\n\n\n", 5)):
            for function in (graph_read, turns_read, walk_read):
                self.raises(f"BadText({line})", function, text)

    def test_each_way_in_which_a_line_can_be_bad(self):
        for function, text, line in (
                (graph_read, "graph", 0), (graph_read, "graph 3 4", 0), (graph_read, "\ngraph x", 1), (graph_read, "turns 1\n-", 0),
                (graph_read, "graph 41", 0), (graph_read, "graph 03", 0), (graph_read, "graph 3\n0", 1), (graph_read, "graph 3\n1 0", 1),
                (graph_read, "graph 3\n0 2 1", 1), (graph_read, "graph 3\n0 1 1", 1), (graph_read, "graph 3\n0 0", 1), (graph_read, "graph 3\n0 3", 1),
                (graph_read, "graph 3\n\n1 2\n\n0 1", 4), (graph_read, "graph 3\n0 1\n0 2", 2), (graph_read, "graph 3\n0 -", 1), (graph_read, "graph 3\n-", 1),
                (graph_read, "graph 3\n0 01", 1), (graph_read, "graph 3\n3 4", 1), (graph_read, "graph 0\n0 1", 1), (graph_read, "Graph 3", 0),
                (graph_read, "graph 0000000003", 0), (graph_read, "graph 999999999", 0), (graph_read, "graph 3\n0 1000000000", 1),
                (graph_read, "graph 3\n0\t1", 1), (graph_read, "graph\t3", 0), (graph_read, "graph 3 \r", 0), (graph_read, "graph \u0663", 0),
                (turns_read, "turns 2\n1", 2), (turns_read, "turns 2\n1\n", 3), (turns_read, "turns 2\n1\n0\n-", 3), (turns_read, "turns 2\n1\n0\n\n 0", 4),
                (turns_read, "turns 2\n0\n1", 1), (turns_read, "turns 2\n1 1\n0", 1), (turns_read, "turns 2\n2\n0", 1), (turns_read, "turns 2\n- -\n0", 1),
                (turns_read, "turns 2\n1 -\n0", 1), (turns_read, "turns 2\n1\nx", 2), (turns_read, "turns 0\n-", 1), (turns_read, "turns 41", 0),
                (turns_read, "turns", 0), (turns_read, "turns -", 0), (turns_read, "graph 1", 0), (turns_read, "turns 1", 1), (turns_read, "turns 1\n0", 1),
                (turns_read, "turns 2\n01\n0", 1), (turns_read, "turns 2\n1\n00", 2), (turns_read, "turns 40", 1),
                (walk_read, "walk", 0), (walk_read, "walk x", 0), (walk_read, "walk 0\nwalk 1", 1), (walk_read, "walk 0\n\n1", 2), (walk_read, "walk -", 0),
                (walk_read, "0 1", 0), (walk_read, "walk 1000000000", 0), (walk_read, "walk 00", 0), (walk_read, "\n\nwalk 0 07", 2)):
            self.raises(f"BadText({line})", function, text)

    def test_the_edges(self):
        self.same(graph_read("graph 0"), ())
        self.same(graph_read("graph 1\n"), ((),))
        self.same(graph_read("graph 40"), ((),) * 40)
        self.same(graph_read("\n  graph   2 \n\n 0 1 \n"), ((1,), (0,)))
        self.same(graph_read("graph 40\n38 39"), ((),) * 38 + ((39,), (38,)))
        self.same(turns_read("turns 1\n-"), ((),))
        self.same(turns_read(" turns 2 \n\n1\n 0 \n "), ((1,), (0,)))
        self.same(walk_read("walk 999999999"), (999999999,))
        self.same(walk_read(" \nwalk 0 0 41\n "), (0, 0, 41))
        row = "\n".join(["turns 40"] + [f"{(k - 1) % 40} {(k + 1) % 40}" for k in range(40)])
        self.same(turns_read(row), made.ring_graph(40))

    def test_no_plane_turns(self):
        for text in ("turns 0", "turns 2\n-\n-", "turns 2\n1\n-", "turns 3\n1\n2\n0", "turns 4\n1 2 3\n0 2 3\n0 1 3\n0 1 2", "turns 4\n1\n0\n3\n2"):
            self.raises("CanNot()", turns_read, text)
        # A line that is bad comes first.
        self.raises("BadText(3)", turns_read, "turns 2\n-\n-\n-")
        self.raises("BadText(2)", turns_read, "turns 2\n-")
