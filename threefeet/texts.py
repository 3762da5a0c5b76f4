"""Texts of GRAPHS, TURNS and WALKS, and what they tell."""

from threefeet.errors import BadText, CanNot
from threefeet.graphs import are_unlike, graph_of
from threefeet.turns import begun, is_plane

MOST = 40
DIGITS = "0123456789"


def is_numeral(word):
    """Whether word is a NUMERAL."""
    if len(word) > 9:
        return False
    for sign in word:
        if sign not in DIGITS:
            return False
    return word == "0" or word[0] != "0"


def are_numerals(words):
    """Whether all of words are NUMERALS."""
    for word in words:
        if not is_numeral(word):
            return False
    return True


def numbers_of(words):
    """The numbers that these NUMERALS tell."""
    return tuple([int(word) for word in words])


def words_of(line):
    """The words of a line."""
    return [word for word in line.split(" ") if word]


def lines_with_words(text):
    """The pairs of the place and the words of each line that has words; there is one at least."""
    lines = text.split("\n")
    found = [(k, words_of(line)) for k, line in enumerate(lines) if words_of(line)]
    if not found:
        raise BadText(len(lines))
    return found


def size_told(line, word):
    """How many vertices the first line of a text tells, which begins with word."""
    place, words = line
    if len(words) != 2 or words[0] != word or not is_numeral(words[1]) or int(words[1]) > MOST:
        raise BadText(place)
    return int(words[1])


def numbers_text(numbers):
    """These numbers as words."""
    return " ".join([str(a) for a in numbers])


def graph_text(graph):
    """The text of a GRAPH."""
    lines = [f"graph {len(graph)}"]
    for a, row in enumerate(graph):
        above = tuple([b for b in row if b > a])
        if above:
            lines.append(numbers_text((a,) + above))
    return "\n".join(lines)


def turns_text(turns):
    """The text of TURNS, which begin as they do."""
    lines = [f"turns {len(turns)}"]
    for row in turns:
        lines.append(numbers_text(row) if row else "-")
    return "\n".join(lines)


def walk_text(walk):
    """The text of a WALK."""
    return "walk " + numbers_text(walk)


def graph_row(line, size, behind):
    """A vertex, which comes behind another one, and its neighbours above it, as a line of the text of a GRAPH tells."""
    place, words = line
    if len(words) < 2 or not are_numerals(words):
        raise BadText(place)
    row = numbers_of(words)
    if row[0] <= behind or row[-1] >= size or tuple(sorted(set(row))) != row:
        raise BadText(place)
    return row


def graph_read(text):
    """The GRAPH that text tells."""
    lines = lines_with_words(text)
    size = size_told(lines[0], "graph")
    edges = []
    behind = -1
    for line in lines[1:]:
        row = graph_row(line, size, behind)
        behind = row[0]
        edges.extend([(behind, b) for b in row[1:]])
    return graph_of(size, tuple(edges))


def turn_told(line, size, vertex):
    """The turn of vertex, as a line of the text of TURNS tells."""
    place, words = line
    if vertex == size:
        raise BadText(place)
    if words == ["-"]:
        return ()
    if not are_numerals(words):
        raise BadText(place)
    row = numbers_of(words)
    if max(row) >= size or vertex in row or not are_unlike(row):
        raise BadText(place)
    return row


def turns_read(text):
    """The PLANE TURNS that text tells, each begun with its least vertex."""
    lines = lines_with_words(text)
    size = size_told(lines[0], "turns")
    rows = []
    for line in lines[1:]:
        rows.append(turn_told(line, size, len(rows)))
    if len(rows) < size:
        raise BadText(len(text.split("\n")))
    turns = tuple(rows)
    if not is_plane(turns):
        raise CanNot()
    return begun(turns)


def walk_read(text):
    """The numbers of the WALK that text tells."""
    lines = lines_with_words(text)
    place, words = lines[0]
    if words[0] != "walk" or len(words) < 2 or not are_numerals(words[1:]):
        raise BadText(place)
    if len(lines) > 1:
        raise BadText(lines[1][0])
    return numbers_of(words[1:])
