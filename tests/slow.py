"""The tests' own slow reckoning: nothing here calls the package."""

from itertools import combinations, permutations, product


# Kinds of values.

def number(x):
    return type(x) is int and x >= 0


def numbers(x):
    return type(x) is tuple and all(number(a) for a in x)


def a_set(x):
    return numbers(x) and all(a < b for a, b in zip(x, x[1:]))


# Graphs.

def is_graph(x):
    if type(x) is not tuple or not all(a_set(row) for row in x):
        return False
    n = len(x)
    for a in range(n):
        for b in x[a]:
            if b >= n or b == a or a not in x[b]:
                return False
    return True


def edges(graph):
    return {(a, b) for a in range(len(graph)) for b in graph[a] if a < b}


def made(n, pairs):
    rows = [set() for _ in range(n)]
    for a, b in pairs:
        rows[a].add(b)
        rows[b].add(a)
    return tuple(tuple(sorted(row)) for row in rows)


def pieces(graph, gone=()):
    """By labels: the least label goes over each edge until nothing changes."""
    label = {a: a for a in range(len(graph)) if a not in gone}
    changed = True
    while changed:
        changed = False
        for a in label:
            for b in graph[a]:
                if b in label and label[b] < label[a]:
                    label[a] = label[b]
                    changed = True
    return tuple(sorted(tuple(sorted(a for a in label if label[a] == own)) for own in set(label.values())))


def separators(graph, many):
    return tuple(own for own in combinations(range(len(graph)), many) if len(pieces(graph, own)) > 1)


def connectivity(graph):
    best = 0
    for k in range(5):
        if len(graph) > k and not any(separators(graph, m) for m in range(k)):
            best = k
    return best


def firm(graph):
    return len(graph) > 3 and not any(separators(graph, m) for m in range(3))


def taken(graph, members):
    place = {a: k for k, a in enumerate(members)}
    return tuple(tuple(sorted(place[b] for b in graph[a] if b in place)) for a in members)


def whole(graph):
    """One piece, and still one less any one vertex."""
    return len(pieces(graph)) == 1 and all(len(pieces(graph, (a,))) < 2 for a in range(len(graph)))


def blocks(graph):
    """All sets of two vertices or more that hold together less any one, of these the greatest."""
    n = len(graph)
    good = []
    for many in range(n, 1, -1):
        for own in combinations(range(n), many):
            if any(set(own) <= set(other) for other in good):
                continue
            if whole(taken(graph, own)):
                good.append(own)
    return tuple(sorted(good))


def joined(graph, edge):
    a, b = edge
    names = [c if c < b else c - 1 for c in range(len(graph))]
    names[b] = a
    pairs = {(names[c], names[d]) for c, d in edges(graph) if names[c] != names[d]}
    return made(len(graph) - 1, pairs)


def all_paths(graph, a, b, gone=()):
    """All simple paths from a to b."""
    found = []
    trail = [(a,)] if a not in gone and b not in gone else []
    while trail:
        path = trail.pop()
        if path[-1] == b:
            found.append(path)
            continue
        trail.extend(path + (c,) for c in graph[path[-1]] if c not in path and c not in gone)
    return found


def is_path(graph, x):
    if not numbers(x) or not x or len(set(x)) < len(x):
        return False
    return all(a < len(graph) for a in x) and all(b in graph[a] for a, b in zip(x, x[1:]))


def is_cycle(graph, x):
    return is_path(graph, x) and len(x) >= 3 and x[-1] in graph[x[0]]


def cycles(graph):
    """Each cycle once: begun with its least vertex."""
    found = []
    for a in range(len(graph)):
        trail = [(a,)]
        while trail:
            path = trail.pop()
            if len(path) > 2 and a in graph[path[-1]] and path[1] < path[-1]:
                found.append(path)
            trail.extend(path + (b,) for b in graph[path[-1]] if b > a and b not in path)
    return found


# Turns.

def is_turns(x):
    if type(x) is not tuple or not all(numbers(row) for row in x):
        return False
    if any(len(set(row)) < len(row) for row in x):
        return False
    return is_graph(tuple(tuple(sorted(row)) for row in x))


def graph_in(turns):
    return tuple(tuple(sorted(row)) for row in turns)


def from_least(row):
    return min((row[k:] + row[:k] for k in range(len(row))), default=())


def begun(turns):
    return tuple(from_least(row) for row in turns)


def step(turns, a, b):
    row = turns[b]
    return b, row[(row.index(a) + 1) % len(row)]


def walk_face(turns, a, b):
    """The darts of the face with the dart (a, b)."""
    darts = [(a, b)]
    while step(turns, *darts[-1]) != (a, b):
        darts.append(step(turns, *darts[-1]))
    return darts


def face(turns, a, b):
    return from_least(tuple(dart[0] for dart in walk_face(turns, a, b)))


def faces(turns):
    found = {face(turns, a, b) for a in range(len(turns)) for b in turns[a]}
    if any(not row for row in turns):
        found.add(())
    return tuple(sorted(found))


def count_faces(turns):
    """Each set of darts counts once, each vertex without neighbours too."""
    lots = {frozenset(walk_face(turns, a, b)) for a in range(len(turns)) for b in turns[a]}
    return len(lots) + sum(1 for row in turns if not row)


def is_plane(x):
    if not is_turns(x) or len(pieces(x)) != 1:
        return False
    return len(x) + count_faces(x) == len(edges(graph_in(x))) + 2


def is_face(turns, x):
    if x == ():
        return any(not row for row in turns)
    if not numbers(x):
        return False
    for a in range(len(turns)):
        for b in turns[a]:
            if tuple(dart[0] for dart in walk_face(turns, a, b)) == x:
                return True
    return False


def all_turns(graph):
    """All ways to turn the neighbours round, each turn begun with its least."""
    rows = []
    for row in graph:
        rows.append([row[:1] + rest for rest in permutations(row[1:])])
    return product(*rows)


def drawable(graph):
    """By all turns of each piece."""
    for piece in pieces(graph):
        if not any(is_plane(turns) for turns in all_turns(taken(graph, piece))):
            return False
    return True


# Sides.

def darts(cycle):
    return list(zip(cycle, cycle[1:] + cycle[:1]))


def sides(turns, cycle):
    """What hangs between the two darts of cycle at a vertex, behind the coming one, is on the left."""
    graph = graph_in(turns)
    left, right = set(), set()
    hanging = pieces(graph, cycle)
    for (a, b), (_, c) in zip(darts(cycle), darts(cycle)[1:] + darts(cycle)[:1]):
        row = turns[b]
        row = row[row.index(a):] + row[:row.index(a)]
        for k, d in enumerate(row):
            for piece in hanging:
                if d in piece:
                    (left if k < row.index(c) else right).update(piece)
    return tuple(sorted(left)), tuple(sorted(right))


# Drawings.

def is_join_row(graph, x):
    if type(x) is not tuple:
        return False
    for edge in x:
        if not numbers(edge) or len(edge) != 2 or edge not in edges(graph):
            return False
        if min(len(graph[edge[0]]), len(graph[edge[1]])) < 3:
            return False
        graph = joined(graph, edge)
    return len(graph) == 4 and len(edges(graph)) == 6


def ends_of(kind, corners):
    if kind == "five":
        places = ((0, 1), (0, 2), (0, 3), (0, 4), (1, 2), (1, 3), (1, 4), (2, 3), (2, 4), (3, 4))
    else:
        places = ((0, 3), (0, 4), (0, 5), (1, 3), (1, 4), (1, 5), (2, 3), (2, 4), (2, 5))
    return [(corners[i], corners[j]) for i, j in places]


def is_forbidden(graph, x):
    if type(x) is not tuple or len(x) != 3 or type(x[0]) is not str or x[0] not in ("five", "three"):
        return False
    kind, corners, paths = x
    if not numbers(corners) or len(corners) != {"five": 5, "three": 6}[kind] or len(set(corners)) < len(corners):
        return False
    if any(a >= len(graph) for a in corners) or type(paths) is not tuple:
        return False
    pairs = ends_of(kind, corners)
    if len(paths) != len(pairs):
        return False
    for path, (a, b) in zip(paths, pairs):
        if not is_path(graph, path) or (path[0], path[-1]) != (a, b):
            return False
    for k, path in enumerate(paths):
        for a in path[1:-1]:
            if a in corners or any(a in other for j, other in enumerate(paths) if j != k):
                return False
    return True


# Discs and parts.

def is_disc(x):
    if type(x) is not tuple or len(x) != 2 or not is_plane(x[0]) or len(x[0]) < 3:
        return False
    turns, rim = x
    graph = graph_in(turns)
    return whole(graph) and is_face(turns, rim) and is_cycle(graph, rim)


def soft(disc):
    turns, rim = disc
    found = []
    for pair in combinations(range(len(turns)), 2):
        for piece in pieces(graph_in(turns), pair):
            if not set(piece) & set(rim):
                found.append((pair, piece))
    return tuple(found)


def parts(graph, line):
    found = []
    for piece in pieces(graph, line):
        feet = {a for a in line if any(b in piece for b in graph[a])}
        found.append((piece, tuple(sorted(feet))))
    return tuple(sorted(found))


def is_too_much(disc, part):
    return len(part[1]) > (2 if set(part[0]) & set(disc[1]) else 3)


def uses(path, edge):
    return any({a, b} == set(edge) for a, b in zip(path, path[1:]))


def way_fault(disc, v, edge, u, x):
    graph = graph_in(disc[0])
    if not is_path(graph, x):
        return "path"
    if x[0] != v or x[-1] != u:
        return "ends"
    if not uses(x, edge):
        return "edge"
    return "feet" if any(is_too_much(disc, part) for part in parts(graph, x)) else ""


# Walks.

def steps(walk):
    """The edges from each place to the next, and from the last to the first."""
    return [] if len(walk) == 1 else [tuple(sorted(dart)) for dart in darts(walk)]


def is_walk(graph, x):
    if not numbers(x) or not x or any(a >= len(graph) for a in x):
        return False
    if len(x) == 1:
        return len(graph) == 1
    return all(b in graph[a] for a, b in darts(x))


def is_home(graph, x):
    if type(x) is not tuple or len(x) != 2 or not is_walk(graph, x[0]) or type(x[1]) is not tuple:
        return False
    walk, triples = x
    if any(walk.count(a) not in (1, 2) for a in range(len(graph))):
        return False
    doubled = [a for a in range(len(graph)) if walk.count(a) == 2]
    if len(triples) != len(doubled):
        return False
    for a, own in zip(doubled, triples):
        if not a_set(own) or len(own) != 3 or a not in own or any(b >= len(graph) for b in own):
            return False
        if len(pieces(graph, own)) < 2:
            return False
    return True


def first_fault(graph, walk):
    """By counting, and by taking out every three vertices."""
    for k in range(len(walk)):
        if walk[k] >= len(graph):
            return "vertex", k
    for k, (a, b) in enumerate(darts(walk)):
        if b not in graph[a] and (walk, graph) != ((0,), ((),)):
            return "edge", k
    for a in range(len(graph)):
        if walk.count(a) == 0:
            return "missing", a
    for a in range(len(graph)):
        if walk.count(a) > 2:
            return "often", a
    held = {a for own in separators(graph, 3) for a in own}
    for a in range(len(graph)):
        if walk.count(a) == 2 and a not in held:
            return "triple", a
    return None


# What hangs at an arc.

def hangings(disc, arc, path):
    graph = graph_in(disc[0])
    found = set()
    for piece in pieces(graph, arc + path):
        at = [k for k, a in enumerate(arc) if set(graph[a]) & set(piece)]
        if at:
            feet = tuple(sorted(a for a in path if set(graph[a]) & set(piece)))
            found.add((at[0], at[-1], piece, feet))
    for i, j in combinations(range(len(arc)), 2):
        if j > i + 1 and arc[j] in graph[arc[i]]:
            found.add((i, j, (), ()))
    return tuple(sorted(found))


def stretches(lot):
    """By comparing all pairs."""
    pairs = {own[:2] for own in lot}
    return tuple(sorted((i, j) for i, j in pairs
                        if i < j and not any((k, m) != (i, j) and k <= i and j <= m for k, m in pairs)))


def in_stretch(lot, stretch):
    i, j = stretch
    return [own for own in lot if i <= own[0] <= own[1] <= j and own[:2] not in ((i, i), (j, j))]


def arcs_to(disc, v, edge, u):
    """The SIDES, by going along the rim, in both directions."""
    graph = graph_in(disc[0])
    found = []
    for rim in (disc[1], disc[1][::-1]):
        row = rim * 3
        at = row.index(v) + len(rim)
        row = row[at:at + len(rim)]
        line = []
        while row[len(line)] not in edge:
            line.append(row[len(line)])
        line.append(row[len(line)])
        back = row[len(line):]
        if back[0] in edge and u not in line:
            if any({u, back[0]} <= set(piece) for piece in pieces(graph, line)):
                found.append((tuple(line), line[-1], back[0], back))
    return found


# Feet of their own.

def own_choices(lot, spared):
    """All OWN FEET for these parts that spare spared, by trying all choices."""
    found = []
    for own in product(*([a for a in part[1] if a not in spared] for part in lot)):
        if len(set(own)) == len(own):
            found.append(own)
    return found


def is_own_feet(graph, line, spared, x):
    lot = parts(graph, line)
    if not numbers(x) or len(x) != len(lot) or len(set(x)) < len(x):
        return False
    return all(a in part[1] and a not in spared for a, part in zip(x, lot))


def is_crowd(graph, line, spared, x):
    """By counting feet."""
    if type(x) is not tuple or not x or not all(numbers(own) for own in x) or list(x) != sorted(set(x)):
        return False
    lot = [part for part in parts(graph, line) if part[0] in x]
    if len(lot) != len(x):
        return False
    return len({a for part in lot for a in part[1]} - set(spared)) < len(x)


def crowds(graph, line, spared):
    """All of them."""
    names = [part[0] for part in parts(graph, line)]
    return [own for many in range(1, len(names) + 1) for own in combinations(names, many)
            if is_crowd(graph, line, spared, own)]


def is_own_way(disc, v, edge, u, spared, x):
    if type(x) is not tuple or len(x) != 2 or way_fault(disc, v, edge, u, x[0]) != "":
        return False
    return is_own_feet(graph_in(disc[0]), x[0], spared, x[1])


def all_ways(disc, v, edge, u):
    lot = all_paths(graph_in(disc[0]), v, u)
    return tuple(sorted(path for path in lot if way_fault(disc, v, edge, u, path) == ""))


def can_spare(disc, v, edge, u, spared):
    graph = graph_in(disc[0])
    return any(own_choices(parts(graph, path), spared) for path in all_ways(disc, v, edge, u))


def is_three_footed(disc, line):
    return not any(is_too_much(disc, part) for part in parts(graph_in(disc[0]), line))


def is_round(disc, spared, x):
    graph = graph_in(disc[0])
    if type(x) is not tuple or len(x) != 2 or not is_cycle(graph, x[0]) or not set(spared) <= set(x[0]):
        return False
    return is_three_footed(disc, x[0]) and is_own_feet(graph, x[0], spared, x[1])


def is_disc_home(disc, p, q, x):
    """Step by step."""
    turns, rim = disc
    if not is_walk(graph_in(turns), x) or any(x.count(a) not in (1, 2) for a in range(len(turns))):
        return False
    lot = steps(x)
    if x.count(p) != 1 or x.count(q) != 1 or any(lot.count(own) > 2 for own in lot):
        return False
    between = tuple(sorted((p, q)))
    near = [tuple(sorted(dart)) for dart in darts(rim)]
    return between not in near or lot.count(between) == 1


# Lines over all vertices, and trees.

def thick(graph):
    """Of connectivity 4."""
    if len(graph) < 5 or min(len(row) for row in graph) < 4:
        return False
    return not any(len(pieces(graph, own)) > 1 for many in range(4) for own in combinations(range(len(graph)), many))


def is_round_over(graph, gone, x):
    return is_cycle(graph, x) and set(x) == set(range(len(graph))) - set(gone)


def is_path_over(graph, a, b, x):
    return is_path(graph, x) and set(x) == set(range(len(graph))) and (x[0], x[-1]) == (a, b)


def is_tree(graph, x):
    """By counting its edges, and by walking along them."""
    if type(x) is not tuple or not all(numbers(own) and len(own) == 2 and own in edges(graph) for own in x):
        return False
    if list(x) != sorted(set(x)) or len(x) != len(graph) - 1:
        return False
    reached = {0}
    for _ in graph:
        reached |= {b for pair in x for b in pair if set(pair) & reached}
    return reached == set(range(len(graph)))


def is_low_tree(graph, leaf, x):
    if not is_tree(graph, x):
        return False
    many = [sum(a in pair for pair in x) for a in range(len(graph))]
    return max(many) <= 3 and many[leaf] == 1


# Limbs.

def torso(graph, limb):
    members, ties = limb
    pairs = {(a, b) for a, b in combinations(members, 2) if b in graph[a] or (a, b) in ties}
    place = {a: k for k, a in enumerate(members)}
    return made(len(members), [(place[a], place[b]) for a, b in pairs])


def splits(graph, limb):
    """All pairs of members less which the torso falls apart."""
    small = torso(graph, limb)
    return [own for own in combinations(range(len(small)), 2) if len(pieces(small, own)) > 1]


def split_at(graph, limb, own):
    members, ties = limb
    tie = tuple(members[k] for k in own)
    found = []
    for piece in pieces(torso(graph, limb), own):
        kept = {members[k] for k in piece} | set(tie)
        found.append((tuple(sorted(kept)), tuple(sorted({pair for pair in ties if set(pair) <= kept} | {tie}))))
    return found


def is_ring(graph):
    return len(graph) > 2 and all(len(row) == 2 for row in graph) and len(pieces(graph)) == 1


def joins(graph, lot):
    """The pairs of limbs that may be joined, and the tie by which."""
    found = []
    for one, other in combinations(lot, 2):
        for tie in set(one[1]) & set(other[1]):
            third = [own for own in lot if own not in (one, other) and tie in own[1]]
            if not third and tie[1] not in graph[tie[0]]:
                if is_ring(torso(graph, one)) and is_ring(torso(graph, other)):
                    found.append((one, other, tie))
    return found


def limbs(graph, dice):
    """By splitting and joining, in any order."""
    lot = [(block, ()) for block in blocks(graph)]
    while True:
        fit = [(limb, own) for limb in lot for own in splits(graph, limb)]
        if not fit:
            break
        limb, own = dice.choice(fit)
        lot.remove(limb)
        lot += split_at(graph, limb, own)
    while joins(graph, lot):
        one, other, tie = dice.choice(joins(graph, lot))
        lot.remove(one)
        lot.remove(other)
        lot.append((tuple(sorted({*one[0], *other[0]})), tuple(sorted({*one[1], *other[1]} - {tie}))))
    return tuple(sorted(lot))


def is_home_by_limbs(graph, lot, x):
    """lot being the limbs."""
    if not is_walk(graph, x):
        return False
    return all(1 <= x.count(a) <= 1 + sum(a in own[0] for own in lot) for a in range(len(graph)))


# Books.

def do_cross(one, other):
    """Whether just one end of the one lies strictly between the ends of the other, and none is common."""
    if set(one) & set(other):
        return False
    return len([k for k in one if other[0] < k < other[1]]) == 1


def are_pages(size, upper, lower):
    if not number(size) or size < 3 or type(upper) is not tuple or type(lower) is not tuple:
        return False
    for page in (upper, lower):
        if not all(numbers(pair) and len(pair) == 2 and pair[1] < size and pair[1] - pair[0] > 1 for pair in page):
            return False
        if list(page) != sorted(set(page)) or (0, size - 1) in page:
            return False
    return not set(upper) & set(lower)


def is_book(x):
    if type(x) is not tuple or len(x) != 3 or not are_pages(*x):
        return False
    return not any(do_cross(one, other) for page in x[1:] for one, other in combinations(page, 2))


# Deeds.

def times_over(walk, edge):
    """The steps of a walk over this edge."""
    return [dart for dart in darts(walk) if set(dart) == set(edge)]


def can_seat(walk, face):
    return any(times_over(walk, own) for own in combinations(face, 2)) or any(walk.count(a) == 1 for a in face)


def can_halve(walk, face, edge):
    over = times_over(walk, edge)
    if len(over) == 1:
        return True
    return can_seat(walk, face) if not over else len(over) == 2 and over[0] == over[1]


def held_in_triples(graph):
    """For each vertex the separators of three vertices that hold it."""
    found = {a: [] for a in range(len(graph))}
    for own in separators(graph, 3):
        for a in own:
            found[a].append(own)
    return found
