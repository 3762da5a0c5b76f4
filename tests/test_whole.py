"""Point [1]: the guarantees of the whole program, each against the judges of the tests' own."""

import os
import subprocess
import sys
from random import Random
from unittest import TestCase

from tests import made, slow
from threefeet.edits import all_done
from threefeet.homes import home, main
from threefeet.ownfeet import own_ways
from threefeet.pairs import home_by_limbs
from threefeet.spans import path_over, round_over, round_without
from threefeet.trees import tree
from threefeet.two import all_ways, counter_disc, spares
from threefeet.ways import way


class Guarantees(TestCase):

    def test_each_graph_has_one_of_three_papers(self):
        """(a)"""
        seen = set()
        lot = [graph for graph in made.many_graphs(9, 120, 1) if len(graph) > 3]
        for graph in lot + [slow.graph_in(made.stacked(Random(k), 9)) for k in range(20)]:
            word, paper = main(graph)
            seen.add(word)
            if word == "cut":
                self.assertTrue(slow.a_set(paper) and len(paper) < 3 and len(slow.pieces(graph, paper)) > 1)
            else:
                self.assertTrue({"home": slow.is_home, "forbidden": slow.is_forbidden}[word](graph, paper))
        self.assertEqual(seen, {"cut", "home", "forbidden"})

    def test_each_disc_has_its_ways(self):
        """(b)"""
        for disc in made.thin_discs(25, 4, 8, 2):
            for v, edge, u in made.asks(disc):
                self.assertEqual(slow.way_fault(disc, v, edge, u, way(disc, v, edge, u)), "")

    def test_feet_of_their_own(self):
        """(c)"""
        for disc in made.solid_discs(25, 4, 8, 3):
            for v, edge, u in made.asks(disc)[::3]:
                for spared, own in zip((u, v) + edge, own_ways(disc, v, edge, u)):
                    self.assertTrue(slow.is_own_way(disc, v, edge, u, (spared,), own))
        for kind in ("ends", "goal and edge", "start and edge"):
            disc, v, edge, u, spared = counter_disc(kind)
            self.assertFalse(slow.soft(disc))
            self.assertEqual(all_ways(disc, v, edge, u), slow.all_ways(disc, v, edge, u))
            self.assertFalse(spares(disc, v, edge, u, spared) or slow.can_spare(disc, v, edge, u, spared))

    def test_thick_drawings(self):
        """(d)"""
        for turns in made.thick_maps(8, 6, 11, 4):
            graph = slow.graph_in(turns)
            self.assertTrue(slow.is_round_over(graph, (), round_over(turns)))
            for a in range(len(turns)):
                self.assertTrue(slow.is_round_over(graph, (a,), round_without(turns, a)))
                b = (a + 3) % len(turns)
                self.assertTrue(slow.is_path_over(graph, a, b, path_over(turns, a, b)))

    def test_each_connected_drawing_has_a_walk_by_limbs(self):
        """(e)"""
        dice = Random(5)
        for own in [made.Limbed(dice, 12) for _ in range(60)]:
            graph = slow.graph_in(own.turns)
            self.assertTrue(slow.is_home_by_limbs(graph, own.limbs, home_by_limbs(own.turns)))

    def test_walks_are_led_on(self):
        """(f)"""
        turns = made.FOUR
        now = home(turns)
        for k in range(8):
            many, turns, now = all_done(turns, now, (("corner", [a for a, row in enumerate(turns) if len(row) == 3][0]),))
            self.assertEqual(many, 1)
            self.assertTrue(slow.is_home(slow.graph_in(turns), now))
        self.assertEqual(len(turns), 20)

    def test_low_trees(self):
        """(g)"""
        for turns in made.firm_maps(12, 4, 10, 6):
            for leaf in range(len(turns)):
                self.assertTrue(slow.is_low_tree(slow.graph_in(turns), leaf, tree(turns, leaf)))


class Alone(TestCase):

    def test_nothing_but_the_package_is_needed(self):
        """All files are imported where no files but the package's and those of Python itself can be found."""
        folder = os.path.dirname(os.path.dirname(os.path.abspath(__file__)))
        names = sorted(name[:-3] for name in os.listdir(os.path.join(folder, "threefeet")) if name.endswith(".py"))
        lines = "; ".join(f"import threefeet.{name}" for name in names if name != "__init__")
        code = f"import sys; sys.path.insert(0, {folder!r}); before = set(sys.modules); {lines}; " \
               "print(sorted({name.partition('.')[0] for name in set(sys.modules) - before}))"
        got = subprocess.run([sys.executable, "-I", "-S", "-B", "-c", code], capture_output=True, text=True, check=True)
        self.assertLessEqual(set(eval(got.stdout)), {"threefeet", "itertools"})

    def test_answers_do_not_hang_on_the_order_of_sets(self):
        """Another seed of Python's hashes, the same answers."""
        folder = os.path.dirname(os.path.dirname(os.path.abspath(__file__)))
        code = ("from tests import made, slow\nfrom random import Random\nfrom threefeet.desk import replies\n"
                "from threefeet.homes import home\nfrom threefeet.judge import words_so, claim_paper\n"
                "from threefeet.pairs import home_by_limbs, limbs\ndice = Random(1)\n"
                "for own in [made.Limbed(dice, 12) for _ in range(5)]:\n"
                "    print(home_by_limbs(own.turns), limbs(slow.graph_in(own.turns)))\n"
                "turns = made.stacked(dice, 12)\nprint(home(turns))\ngraph = slow.graph_in(turns)\n"
                "print(claim_paper(('held', graph)), claim_paper(('flat', graph)))\n"
                "print(words_so((('held', graph), ('flat', graph), ('own', graph, (0,), ()))))\n"
                "print(replies(('corner 0', 'corner 1', 'walk', 'triples', 'turns')))\n")
        told = set()
        for seed in ("0", "1", "77"):
            surroundings = {**os.environ, "PYTHONHASHSEED": seed, "PYTHONPATH": folder}
            got = subprocess.run([sys.executable, "-B", "-c", code], capture_output=True, text=True, check=True, env=surroundings, cwd=folder)
            told.add(got.stdout)
        self.assertEqual(len(told), 1)
