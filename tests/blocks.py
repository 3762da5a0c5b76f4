"""Ways through the blocks of a disc, chosen so that as little as may be is spared."""

from unittest.mock import patch

from tests import slow
from threefeet import ways


# Asks of own_way for which it matters what the blocks spare: disc, v, edge, u and the vertex to be spared.
HARD = (
    ((((8, 6, 10), (7, 2), (7, 4, 9, 3, 1), (9, 2), (9, 2, 7), (8, 9), (7, 12, 10, 0, 9, 11), (9, 4, 2, 1, 12, 6, 11),
       (5, 9, 0, 10), (6, 8, 5, 3, 2, 4, 7, 11), (6, 8, 0), (7, 6, 9), (6, 7)), (7, 12, 6, 10, 8, 5, 9, 3, 2, 1)),
     12, (3, 9), 2, 2),
    ((((4, 8, 2, 5, 7), (2, 3, 7), (7, 5, 0, 8, 3, 1), (2, 6, 7, 1), (7, 0), (0, 2, 7), (3, 7), (6, 4, 0, 5, 2, 1, 3), (2, 0)),
      (0, 8, 2, 3, 6, 7, 4)), 4, (2, 3), 3, 3),
    ((((1, 4, 6), (0, 6, 5, 2, 4), (1, 4), (6, 8, 4, 7), (6, 0, 1, 2, 3, 8), (1, 6), (7, 5, 1, 0, 4, 8, 3), (6, 3), (6, 4, 3)),
      (5, 1, 2, 4, 3, 7, 6)), 3, (3, 4), 5, 3),
    ((((4, 2, 3, 9, 5), (4, 6), (0, 4), (9, 0), (9, 8, 6, 1, 2, 0, 5), (0, 9, 4), (8, 9, 7, 1, 4), (9, 6), (6, 4, 9),
       (3, 7, 6, 8, 4, 5, 0)), (2, 0, 3, 9, 7, 6, 1, 4)), 2, (0, 2), 7, 0),
    ((((8, 5), (5, 8, 3), (7, 3, 6, 8, 4), (5, 1, 8, 6, 2, 7, 9), (2, 8), (1, 3, 9, 0, 8), (2, 3, 8), (3, 2),
       (5, 0, 4, 2, 6, 3, 1), (5, 3)), (9, 5, 0, 8, 4, 2, 7, 3)), 9, (4, 8), 2, 8),
    ((((6, 2), (7, 2), (0, 6, 9, 8, 3, 7, 1), (2, 8, 7), (7, 8), (8, 6), (2, 0, 5, 8, 9), (1, 2, 3, 8, 4),
       (9, 6, 5, 4, 7, 3, 2), (8, 2, 6)), (7, 1, 2, 0, 6, 5, 8, 4)), 7, (1, 2), 3, 2),
    ((((2, 11, 12, 7, 6, 5, 1, 3), (0, 5, 3), (9, 0, 3), (8, 9, 2, 0, 1, 5), (7, 10, 5), (10, 8, 3, 1, 0, 6, 7, 4), (5, 0, 7),
       (5, 6, 0, 4), (5, 10, 3), (10, 11, 2, 3), (12, 9, 8, 5, 4), (0, 9), (10, 0)), (0, 12, 10, 9, 11)), 10, (9, 11), 2, 10),
    ((((9, 7, 8), (6, 10, 2), (6, 1, 10, 5, 8, 4), (8, 7, 6), (8, 6, 2), (10, 8, 2), (8, 3, 7, 1, 2, 4), (0, 11, 12, 6, 3, 8),
       (7, 3, 6, 4, 2, 5, 9, 0), (10, 11, 0, 8), (12, 9, 5, 2, 1), (7, 9), (10, 7)), (7, 12, 10, 9, 11)), 10, (9, 11), 0, 10))

# Such asks of next_way.
HARD_NEXT = (
    ((((2, 5, 6, 7, 9, 4, 3), (7, 5), (0, 3, 5), (0, 4, 8, 5, 2), (0, 10, 3), (2, 3, 8, 1, 7, 6, 0), (5, 7, 0), (1, 9, 0, 6, 5),
       (3, 5), (0, 7, 10), (9, 4)), (4, 3, 8, 5, 1, 7, 9, 10)), 4, (7, 9), 10, (7, 10)),
    ((((2, 10, 7), (6, 8), (0, 4, 10), (6, 7, 8), (2, 7, 6, 9), (8, 7), (3, 8, 1, 9, 4), (4, 0, 5, 8, 3), (5, 1, 6, 3, 7),
       (4, 6, 10), (2, 9, 0)), (0, 7, 5, 8, 1, 6, 9, 10)), 0, (6, 9), 10, (6, 10)),
    ((((1, 4), (2, 0, 4, 8, 6, 3, 7), (7, 1), (6, 7, 1), (6, 8, 1, 0, 9), (6, 10, 7), (5, 7, 3, 1, 8, 4, 9), (2, 1, 3, 6, 5),
       (6, 1, 4), (6, 4, 10), (9, 5)), (5, 7, 2, 1, 0, 4, 9, 10)), 5, (4, 9), 10, (4, 10)),
    ((((8, 9, 5, 3, 4), (5, 10, 2), (6, 5, 1, 7, 4), (5, 4, 0), (7, 8, 0, 3, 5, 6, 2), (0, 9, 1, 2, 6, 4, 3), (5, 2, 4), (4, 2),
       (0, 4), (5, 0, 10), (9, 1)), (1, 2, 7, 4, 8, 0, 9, 10)), 1, (0, 9), 10, (0, 10)))


class Worst:
    """Stands for what finds the WAYS in the blocks: of all that spare what is asked one that spares little else."""

    def __init__(self, dice, most=7):
        self.dice = dice
        self.most = most
        self.told = {}
        self.first = ways.way_sparing

    def lot(self, disc, v, edge, u):
        if (disc, v, edge, u) not in self.told:
            graph = slow.graph_in(disc[0])
            found = []
            for path in slow.all_ways(disc, v, edge, u):
                held = [set(own) for own in slow.own_choices(slow.parts(graph, path), ())]
                found.append((path, [a for a in range(len(graph)) if any(a not in own for own in held)]))
            self.told[(disc, v, edge, u)] = found
        return self.told[(disc, v, edge, u)]

    def way_sparing(self, disc, v, edge, u, spared):
        if len(disc[0]) > self.most:
            return self.first(disc, v, edge, u, spared)
        fit = [own for own in self.lot(disc, v, edge, u) if spared in own[1]]
        least = min(len(own[1]) for own in fit)
        return self.dice.choice([path for path, own in fit if len(own) == least or self.dice.random() < 0.1])

    def patched(self):
        return patch.object(ways, "way_sparing", self.way_sparing)
