"""Graphs, drawings and wrong things for the tests, made without the package."""

from functools import cmp_to_key
from itertools import combinations
from random import Random

from tests import slow


def random_graph(seed, n, part):
    dice = Random(seed)
    return slow.made(n, [pair for pair in combinations(range(n), 2) if dice.random() < part])


def many_graphs(most, many, seed=0):
    """Graphs of up to most vertices, sparse and dense."""
    dice = Random(seed)
    return [random_graph(dice.random(), dice.randint(0, most), dice.choice((0.15, 0.3, 0.5, 0.7, 0.9)))
            for _ in range(many)]


def small_graphs(most):
    """All graphs of up to most vertices, in all numberings."""
    for n in range(most + 1):
        pairs = list(combinations(range(n), 2))
        for bits in range(2 ** len(pairs)):
            yield slow.made(n, [pair for k, pair in enumerate(pairs) if bits >> k & 1])


def complete(n):
    return slow.made(n, combinations(range(n), 2))


def complete_three():
    return slow.made(6, [(a, b) for a in range(3) for b in range(3, 6)])


def ring_graph(n):
    return slow.made(n, [(k, (k + 1) % n) for k in range(n)])


# Drawings by points in the plane and straight lines that do not cross.

def cross(p, q, r):
    return (q[0] - p[0]) * (r[1] - p[1]) - (q[1] - p[1]) * (r[0] - p[0])


def do_cross(p, q, r, s):
    return cross(p, q, r) * cross(p, q, s) < 0 and cross(r, s, p) * cross(r, s, q) < 0


def points(dice, n, fenced):
    """n points, no three on a line; with a fence the first three have all others between them."""
    found = [(-7000, -5000), (7003, -5011), (17, 9001)] if fenced else []
    while len(found) < n:
        p = (dice.randint(-1000, 1000), dice.randint(-1000, 1000))
        if p not in found and all(cross(p, q, r) for q, r in combinations(found, 2)):
            found.append(p)
    return found


def half(v):
    return 0 if (v[1], v[0]) > (0, 0) else 1


def clockwise(p, spots):
    """The order of these (name, spot) round p, against the sun."""
    def compare(one, two):
        v = (one[1][0] - p[0], one[1][1] - p[1])
        w = (two[1][0] - p[0], two[1][1] - p[1])
        return half(v) - half(w) or -cross((0, 0), v, w)
    return [name for name, _ in sorted(spots, key=cmp_to_key(compare))][::-1]


class Map:
    """Points, the edges between them, and the turns clockwise: the faces lie left of their darts."""

    def __init__(self, seed, n, most, fenced=False):
        dice = Random(seed)
        self.spots = points(dice, n, fenced)
        pairs = list(combinations(range(n), 2))
        dice.shuffle(pairs)
        self.pairs = []
        for a, b in pairs:
            if len(self.pairs) < most and not any(
                    do_cross(self.spots[a], self.spots[b], self.spots[c], self.spots[d]) for c, d in self.pairs):
                self.pairs.append((a, b))
        self.graph = slow.made(n, self.pairs)
        self.turns = tuple(
            slow.from_least(tuple(clockwise(self.spots[a], [(b, self.spots[b]) for b in self.graph[a]])))
            for a in range(n))

    def area(self, cycle):
        """Twice the area, above 0 if the cycle goes against the clock."""
        return sum(self.spots[a][0] * self.spots[b][1] - self.spots[b][0] * self.spots[a][1]
                   for a, b in slow.darts(cycle))

    def outside(self):
        """The face round the whole drawing, of one piece."""
        return [own for own in slow.faces(self.turns) if self.area(own) <= 0][0]

    def holds(self, cycle, spot):
        """Whether this spot, told in halves, lies within the cycle."""
        within = False
        for a, b in slow.darts(cycle):
            (x1, y1), (x2, y2) = [(2 * self.spots[c][0], 2 * self.spots[c][1]) for c in (a, b)]
            if (y1 > spot[1]) != (y2 > spot[1]):
                side = (x2 - x1) * (spot[1] - y1) - (spot[0] - x1) * (y2 - y1)
                if (side > 0) == (y2 > y1):
                    within = not within
        return within

    def is_left(self, cycle, spot):
        return self.holds(cycle, spot) == (self.area(cycle) > 0)


def maps(many, least, most, seed=0, fenced=False, full=False):
    dice = Random(seed)
    found = []
    for _ in range(many):
        n = dice.randint(least, most)
        found.append(Map(dice.random(), n, 3 * n if full else dice.randint(0, 3 * n), fenced))
    return found


def plane_maps(many, least, most, seed=0):
    """Drawings of one piece."""
    return [own for own in maps(many, least, most, seed) if len(slow.pieces(own.graph)) == 1]


def firm_maps(many, least, most, seed=0):
    """Drawings of connectivity 3 or more; some are thinned out as far as that allows."""
    found = []
    for k, own in enumerate(maps(many, least, most, seed, True, True)):
        turns = own.turns
        for edge in sorted(own.pairs)[:4 * (k % 4)]:
            thin = dropped(turns, edge)
            if slow.firm(slow.graph_in(thin)):
                turns = thin
        found.append(turns)
    return found


def dropped(turns, edge):
    """The turns without this edge."""
    return slow.begun(tuple(tuple(b for b in row if {a, b} != set(edge)) for a, row in enumerate(turns)))


def discs(many, least, most, seed=0):
    """Discs, firm and less firm, each face in turn as the rim, begun anywhere."""
    dice = Random(seed)
    found = []
    for own in maps(many, least, most, seed):
        if slow.whole(own.graph) and len(own.graph) > 2:
            rims = slow.faces(own.turns)
            found.extend((own.turns, shifted(rim, dice.randrange(9))) for rim in rims)
    for turns in firm_maps(many // 3, max(4, least), most, seed):
        found.extend((turns, shifted(rim, dice.randrange(9))) for rim in slow.faces(turns))
    return found


def shifted(row, k):
    k = k % len(row) if row else 0
    return row[k:] + row[:k]


# Wrong things.

OTHERS = (None, True, False, -1, 0, 1, 3, 99, 10 ** 30, "", "0", "five", (), [], (0,), (0, 1), [0, 1],
          ((0, 1),), ((),), (((((((((((0,),),),),),),),),),),), [[[[[[[[[[[0]]]]]]]]]]], ("a", None, (True,)),
          (None, None), ((), ()), ((1,), (0,)), ((1,), [0]), ((True,), (False,)), ((True,), (0,)))


def places(thing, path=()):
    """The places of thing and of all that it holds."""
    yield path, thing
    if type(thing) in (tuple, list):
        for k, own in enumerate(thing):
            yield from places(own, path + (k,))


def changed(thing, path, new):
    """thing with new in this place."""
    if not path:
        return new
    rows = list(thing)
    rows[path[0]] = changed(rows[path[0]], path[1:], new)
    return type(thing)(rows)


def changes_of(own):
    """What may stand in the place of own."""
    if type(own) is tuple:
        yield list(own)
        yield own[:-1]
        yield own[1:]
        yield own + own[-1:]
        yield own + own[:1]
        yield own + (0,)
        yield own[::-1]
        yield own[1:] + own[:1]
        yield own[1:2] + own[:1] + own[2:]
        yield (own,)
        yield tuple(sorted(own, key=repr))
    if type(own) is int:
        yield from (own == 1, own != 0, own + 1, own - 1, -own, -1 - own, str(own), None, (own,), own + 100)
    if type(own) is str:
        yield from ("", own + " ", own.upper(), (own,), None, 5)


def wrong(thing, most=400, seed=0):
    """thing changed in one place, most of these at most, each tuple a list in its turn, and quite other things."""
    found = []
    lists = []
    for path, own in places(thing):
        found.extend(changed(thing, path, new) for new in changes_of(own))
        if type(own) is tuple:
            lists.append(changed(thing, path, list(own)))
    if len(found) > most:
        found = Random(seed).sample(found, most)
    return found + lists + list(OTHERS)


def begun_elsewhere(turns, k):
    """The same turns, each begun elsewhere."""
    return tuple(shifted(row, k + a) for a, row in enumerate(turns))


# Walks.

def random_walk(graph, dice, most):
    """A walk of a graph of one piece with two vertices or more: some steps, and a way back."""
    walk = [dice.randrange(len(graph))]
    for _ in range(dice.randint(1, most)):
        walk.append(dice.choice(graph[walk[-1]]))
    while walk[0] not in graph[walk[-1]]:
        walk.append(dice.choice(graph[walk[-1]]))
    return tuple(walk)


def random_walks(many, least, most, seed, steps=12):
    """Pairs of a graph of one piece and of a walk of it."""
    dice = Random(seed)
    found = []
    while len(found) < many:
        graph = random_graph(dice.random(), dice.randint(max(2, least), most), dice.choice((0.3, 0.5, 0.8)))
        if len(slow.pieces(graph)) == 1:
            found.append((graph, random_walk(graph, dice, steps)))
    return found


def grown_walk(graph, dice):
    """A walk that begins as there and back on an edge and has others put in by turns there and back, or along edges."""
    a = dice.randrange(len(graph))
    walk = [a, dice.choice(graph[a])]
    for _ in range(3 * len(graph)):
        k = dice.randrange(len(walk))
        a, b = walk[k], walk[(k + 1) % len(walk)]
        fresh = [c for c in graph[a] if c not in walk]
        if fresh:
            c = dice.choice(fresh)
            walk[k + 1:k + 1] = [c] if b in graph[c] else [c, a]
    return shifted(tuple(walk), dice.randrange(99))


# Discs with soft spots, thin ones, and the paths in them.

def thinned(turns, dice, part, fits):
    """The turns without some of their edges, such that the graph still is fit."""
    lot = sorted(slow.edges(slow.graph_in(turns)))
    dice.shuffle(lot)
    for edge in lot:
        if dice.random() < part:
            thin = dropped(turns, edge)
            if fits(slow.graph_in(thin)):
                turns = thin
    return turns


def told_anew(disc, dice):
    """The disc with its vertices numbered anew, and all turns begun anywhere."""
    turns, rim = disc
    names = list(range(len(turns)))
    dice.shuffle(names)
    rows = [()] * len(turns)
    for a, row in enumerate(turns):
        rows[names[a]] = shifted(tuple(names[b] for b in row), dice.randrange(9))
    return tuple(rows), shifted(tuple(names[a] for a in rim), dice.randrange(9))


def thin_discs(many, least, most, seed=0, fits=slow.whole):
    """Discs that are thinned out; with slow.firm as fits they are solid, by another face or a vertex less."""
    dice = Random(seed)
    found = []
    while len(found) < many:
        n = dice.randint(least, most)
        own = Map(dice.random(), n, 3 * n, True)
        turns = thinned(own.turns, dice, dice.choice((0.3, 0.8, 1, 1)), fits)
        found.append(told_anew((turns, dice.choice(slow.faces(turns))), dice))
    return found


def hub_less(turns, vertex):
    """The disc of all vertices but this one; its rim is where it was."""
    kept = [a for a in range(len(turns)) if a != vertex]
    place = {a: k for k, a in enumerate(kept)}
    rows = tuple(tuple(place[b] for b in turns[a] if b != vertex) for a in kept)
    around = [slow.walk_face(turns, vertex, b) for b in turns[vertex]]
    inner = {(place[a], place[b]) for face in around for a, b in face if vertex not in (a, b)}
    return rows, [own for own in slow.faces(rows) if set(slow.darts(own)) == inner][0]


def solid_discs(many, least, most, seed=0):
    """Solid discs, thick and thin, with short and with long rims."""
    dice = Random(seed)
    found = []
    while len(found) < many:
        n = dice.randint(max(4, least + 1), most + 1)
        turns = thinned(Map(dice.random(), n, 3 * n, True).turns, dice, dice.choice((0.1, 0.5, 0.9, 1, 1)), slow.firm)
        if n <= most and dice.random() < 0.4:
            disc = (turns, dice.choice(slow.faces(turns)))
        else:
            disc = hub_less(turns, dice.randrange(n))
        found.append(told_anew(disc, dice))
    return found


def rim_pairs(disc):
    """The edges of the rim, the lesser vertex first."""
    return [tuple(sorted(dart)) for dart in slow.darts(disc[1])]


def asks(disc):
    """All v, edge, u for this disc."""
    return [(v, edge, u) for v in disc[1] for edge in rim_pairs(disc) for u in range(len(disc[0])) if u != v]


# Discs and drawings with many small parts.

def starred(turns, face, ends):
    """The turns with a vertex more in this face, joined to ends."""
    rows = [list(row) for row in turns]
    for k, b in enumerate(face):
        if b in ends:
            rows[b].insert(rows[b].index(face[k - 1]) + 1, len(turns))
    rows.append([b for b in face if b in ends][::-1])
    return tuple(tuple(row) for row in rows)


def stuffed(dice, least, most):
    """A solid disc, of a smaller one with vertices of three edges in its faces and of two edges outside its rim."""
    turns, rim = solid_discs(1, least, least + 3, dice.random())[0]
    inner = [face for face in slow.faces(turns) if face != slow.from_least(rim)]
    one, two = dice.choice((0.3, 0.6, 0.9)), dice.choice((0.3, 0.6, 0.9))
    for face in inner:
        if dice.random() < one and len(turns) < most:
            turns = starred(turns, face, dice.sample(face, 3))
    for a, b in slow.darts(rim):
        if dice.random() < two and len(turns) < most:
            at = rim.index(a)
            turns, rim = starred(turns, rim, (a, b)), rim[:at + 1] + (len(turns),) + rim[at + 1:]
    return told_anew((turns, rim), dice)


def stacked(dice, n):
    """A drawing of connectivity 3 or more with many separators of three vertices: vertices put into faces."""
    turns = ((1, 2, 3), (0, 3, 2), (0, 1, 3), (0, 2, 1))
    while len(turns) < n:
        lot = slow.faces(turns)
        face = dice.choice(lot[-6:] if dice.random() < 0.6 else lot)
        turns = starred(turns, face, dice.sample(face, dice.randint(3, len(face))))
        turns = thinned(turns, dice, 0.1, slow.firm)
    return turns


# Drawings of connectivity 4, drawings put together by pairs of vertices, books.

FOUR = ((1, 2, 3), (0, 3, 2), (0, 1, 3), (0, 2, 1))


def drum(k):
    """Two rings of k vertices, one within the other, and triangles between them."""
    inner = [((a + 1) % k, (a - 1) % k, k + a, k + (a + 1) % k) for a in range(k)]
    outer = [(k + (a - 1) % k, k + (a + 1) % k, a, (a - 1) % k) for a in range(k)]
    return tuple(tuple(row) for row in inner + outer)


def tent(k):
    """A ring of k vertices with one in it and one round it."""
    return starred(starred(ring_graph(k), tuple(range(k)), tuple(range(k))), tuple(range(k))[::-1], tuple(range(k)))


def thick_maps(many, least, most, seed=0):
    """Drawings of connectivity 4, some of them thinned out."""
    dice = Random(seed)
    found = []
    while len(found) < many:
        n = dice.randint(least, most)
        own = Map(dice.random(), n, 3 * n, True)
        if slow.thick(own.graph):
            turns = thinned(own.turns, dice, dice.choice((0, 0.5, 1)), slow.thick)
            found.append(told_anew((turns, ()), dice)[0])
    return found


def torso_drawn(dice, most):
    """A ring, or a drawing of connectivity 3 or more."""
    if most < 4 or dice.random() < 0.5:
        return ring_graph(dice.randint(3, max(3, min(5, most))))
    return stacked(dice, dice.randint(4, min(7, most)))


def beside(turns, a, b, own, p, q):
    """turns with another drawing glued to the edge of a and b by its edge of p and q; and the names in turns."""
    fresh = [c for c in range(len(own)) if c not in (p, q)]
    names = {p: a, q: b, **{c: len(turns) + k for k, c in enumerate(fresh)}}
    rows = [list(row) for row in turns] + [[names[d] for d in own[c]] for c in fresh]
    for c, d, at in ((q, p, 1), (p, q, 0)):
        k = own[c].index(d)
        j = rows[names[c]].index(names[d]) + at
        rows[names[c]][j:j] = [names[e] for e in own[c][k + 1:] + own[c][:k]]
    return tuple(tuple(row) for row in rows), names


def at_vertex(turns, a, own, dice):
    """turns with another drawing that has the vertex a, its own 0, in common; and the names in turns."""
    names = {0: a, **{c: len(turns) + c - 1 for c in range(1, len(own))}}
    rows = [list(row) for row in turns] + [[names[d] for d in row] for row in own[1:]]
    k = dice.randrange(len(rows[a]) + 1)
    rows[a][k:k] = [names[d] for d in own[0]]
    return tuple(tuple(row) for row in rows), names


class Limbed:
    """A drawing put together of limbs; limbs tells them as they were put in."""

    def __init__(self, dice, most):
        self.dice = dice
        self.turns = torso_drawn(dice, most)
        self.lot = [(set(range(len(self.turns))), set(), slow.is_ring(slow.graph_in(self.turns)))]
        self.ties = set()
        while len(self.turns) < most and dice.random() < 0.9:
            self.grow(most - len(self.turns))
        for tie in sorted(self.ties):
            own = [limb for limb in self.lot if tie in limb[1]]
            # Two rings alone would be joined again.
            if dice.random() < 0.6 and (len(own) > 2 or not own[0][2] or not own[1][2]):
                self.turns = dropped(self.turns, tie)
        self.tell_anew()

    def grow(self, room):
        kind = self.dice.random()
        if kind < 0.24:
            own = ((1,), (0,)) if kind < 0.14 or room < 2 else torso_drawn(self.dice, room + 1)
            if len(own) - 1 <= room:
                self.turns, names = at_vertex(self.turns, self.dice.randrange(len(self.turns)), own, self.dice)
                self.lot.append((set(names.values()), set(), slow.is_ring(slow.graph_in(own))))
            return
        own = torso_drawn(self.dice, room + 2)
        pairs = [pair for pair in sorted(slow.edges(slow.graph_in(self.turns)))
                 if any(set(pair) <= limb[0] and len(limb[0]) > 2 for limb in self.lot)]
        if self.ties and self.dice.random() < 0.4:
            pairs = sorted(self.ties)
        tie = self.dice.choice(pairs)
        a, b = self.dice.choice((tie, tie[::-1]))
        p, q = self.dice.choice(sorted(slow.edges(slow.graph_in(own))))
        self.turns, names = beside(self.turns, a, b, own, p, q)
        self.lot.append((set(names.values()), set(), slow.is_ring(slow.graph_in(own))))
        self.ties.add(tie)
        for limb in self.lot:
            if set(tie) <= limb[0]:
                limb[1].add(tie)

    def tell_anew(self):
        names = list(range(len(self.turns)))
        self.dice.shuffle(names)
        rows = [()] * len(names)
        for a, row in enumerate(self.turns):
            rows[names[a]] = shifted(tuple(names[b] for b in row), self.dice.randrange(9))
        self.turns = tuple(rows)
        self.limbs = tuple(sorted(
            (tuple(sorted(names[a] for a in members)), tuple(sorted(tuple(sorted((names[a], names[b]))) for a, b in ties)))
            for members, ties, _ in self.lot))


def random_book(dice, size, part=1):
    """A book with as many pairs as come without crossing, or with part of them."""
    pages = [], []
    pairs = [(i, j) for i in range(size) for j in range(i + 2, size) if (i, j) != (0, size - 1)]
    dice.shuffle(pairs)
    for pair in pairs[:int(len(pairs) * part)]:
        page = dice.choice(pages)
        if not any(slow.do_cross(pair, own) for own in page):
            page.append(pair)
    return size, tuple(sorted(pages[0])), tuple(sorted(pages[1]))


# Homes of all kinds.

def random_home(turns, dice, tries=200):
    """A home found by going on at random; None if none is found."""
    graph = slow.graph_in(turns)
    held = slow.held_in_triples(graph)
    for _ in range(tries):
        left = {a: 2 if held[a] and dice.random() < 0.8 else 1 for a in range(len(graph))}
        walk = [dice.randrange(len(graph))]
        left[walk[0]] -= 1
        while walk:
            if len(set(walk)) == len(graph) and walk[0] in graph[walk[-1]] and dice.random() < 0.5:
                row = shifted(tuple(walk)[::dice.choice((1, -1))], dice.randrange(99))
                return row, tuple(dice.choice(held[a]) for a in range(len(graph)) if row.count(a) == 2)
            fit = [b for b in graph[walk[-1]] if left[b]]
            fresh = [b for b in fit if b not in walk]
            if not fit:
                walk = []
            else:
                walk.append(dice.choice(fresh if fresh and dice.random() < 0.5 else fit))
                left[walk[-1]] -= 1
    return None
