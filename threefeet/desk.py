"""A desk: requests in words to a Yard, and the replies."""

from threefeet.errors import BadText, CanNot, NoEdge, NoFace, NoPaper, NothingDone, NoVertex, TooMany, Unfit
from threefeet.homes import main
from threefeet.texts import (
    are_numerals, graph_read, numbers_of, numbers_text, turns_read, turns_text, walk_text, words_of
)
from threefeet.walks import edge_between
from threefeet.yards import Yard

PLAIN = ("undo", "redo", "turns", "walk", "triples", "deeds")
MOST = 16


def by_deed(word, words):
    """The deed with this word, a FACE and two more numbers that words tell; None if they tell none."""
    if len(words) < 6 or words[-3] != "by" or not are_numerals(words[:-3] + words[-2:]):
        return None
    face = numbers_of(words[:-3])
    a, b = numbers_of(words[-2:])
    return ("halve", face, edge_between(a, b)) if word == "halve" else ("chord", face, a, b)


def deed_told(words):
    """The deed that the words of a request tell; None if they tell none."""
    if not words:
        return None
    word, rest = words[0], words[1:]
    if word in ("halve", "chord"):
        return by_deed(word, rest)
    if word == "seat" and len(rest) > 2 and are_numerals(rest):
        return "seat", numbers_of(rest)
    if word == "corner" and len(rest) == 1 and are_numerals(rest):
        return "corner", numbers_of(rest)[0]
    return None


def is_request(thing):
    """Whether thing is a request."""
    if not isinstance(thing, str):
        return False
    head, feed, _ = thing.partition("\n")
    words = words_of(head)
    if words in (["lay"], ["main"]):
        return True
    if feed:
        return False
    return deed_told(words) is not None or len(words) == 1 and words[0] in PLAIN


def triples_text(triples):
    """A line for each of triples; the word none if there are none."""
    return "\n".join([numbers_text(own) for own in triples]) or "none"


def main_word(text):
    """The word of main for the GRAPH that text tells."""
    graph = graph_read(text)
    if len(graph) > MOST:
        raise TooMany()
    return main(graph)[0]


def text_told(yard, word):
    """What is asked of yard by this word."""
    if word == "turns":
        return turns_text(yard.turns())
    if word == "walk":
        return walk_text(yard.walk())
    if word == "triples":
        return triples_text(yard.triples())
    return str(len(yard.deeds()))


def served(yard, request):
    """The reply to a request that is done; what cannot be done raises its error."""
    if not is_request(request):
        raise BadText(0)
    head, _, text = request.partition("\n")
    words = words_of(head)
    word = words[0]
    if word == "main":
        return main_word(text)
    if word in ("turns", "walk", "triples", "deeds"):
        return text_told(yard, word)
    if word == "lay":
        yard.lay(turns_read(text))
    elif word == "undo":
        yard.undo()
    elif word == "redo":
        yard.redo()
    else:
        yard.do(deed_told(words))
    return "done"


def reply(yard, request):
    """The reply to a request, done or refused."""
    try:
        return served(yard, request)
    except NoVertex:
        return "refused NoVertex"
    except NoEdge:
        return "refused NoEdge"
    except NoFace:
        return "refused NoFace"
    except NothingDone:
        return "refused NothingDone"
    except Unfit:
        return "refused Unfit"
    except CanNot:
        return "refused CanNot"
    except NoPaper:
        return "refused NoPaper"
    except TooMany:
        return "refused TooMany"
    except BadText:
        return "refused BadText"


def yard_behind(requests):
    """A new Yard behind these requests."""
    yard = Yard()
    for request in requests:
        reply(yard, request)
    return yard


def replies(requests):
    """The replies of a new Yard to these requests, one behind the other."""
    yard = Yard()
    return tuple([reply(yard, request) for request in requests])


def last_turns(requests):
    """The TURNS of a new Yard behind these requests."""
    return yard_behind(requests).turns()


def last_walk(requests):
    """The WALK of a new Yard behind these requests."""
    return yard_behind(requests).walk()
