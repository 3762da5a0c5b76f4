"""Points [28], [2] and [3]: names, errors, the order of the files, and what holds for all functions."""

import ast
import inspect
import os
from importlib import import_module
from random import Random

from tests import made, slow
from tests.doors import BASES, DoorCase
from threefeet import errors
from threefeet.yards import Yard

ORDER = ("errors graphs cuts turns sides drawings forbidden discs parts walks stretches chains ways ownfeet two rounds"
         " strands homes spans trees pairs books edits judge texts yards desk").split()

INTERFACE = {
    "graphs": "is_graph(thing) graph_of(size,edges) edges_of(graph) pieces(graph,gone) shortest_path(graph,a,b,gone)"
              " with_edges(graph,edges) without_edges(graph,edges) drawn_together(graph,edge) taken_out(graph,members)"
              " is_path(graph,thing) is_cycle(graph,thing)",
    "cuts": "is_separator(graph,vertices) separators(graph,many) least_separator(graph,most) connectivity(graph)"
            " blocks(graph) cut_vertices(graph) block_chain(graph,gone,a,b) triples_with(graph,vertex)"
            " is_between(graph,vertices,a,b) least_cut_between(graph,a,b)",
    "turns": "is_turns(thing) graph_in(turns) begun(turns) are_same(turns,other) face_of(turns,a,b) faces(turns)"
             " euler(turns) is_plane(thing) mirrored(turns) faces_at(turns,vertex) with_chord(turns,face,a,b)"
             " with_star(turns,face,ends) halved(turns,edge) without_edge(turns,edge)",
    "sides": "sides(turns,cycle) faces_left(turns,cycle) counts_left(turns,cycle) inside(disc,cycle) arc(cycle,a,b)"
             " alternate(cycle,a,b,c,d) common(line,other) edges_round(turns,faces)",
    "drawings": "can_draw(graph) draw(graph) is_drawing(graph,thing) may_join(graph,edge) join_row(graph)"
                " is_join_row(graph,thing) alike(turns,other)",
    "forbidden": "is_forbidden(graph,thing) forbidden(graph) edges_in(paper) is_bare(graph) bared(graph)"
                 " named(paper,names)",
    "discs": "is_disc(thing) disc_of(turns,face) rim_edges(disc) next_on_rim(disc,vertex) is_solid(disc)"
             " soft_cuts(disc) with_hub(disc) block_disc(disc,gone,block) less_vertex(turns,vertex)"
             " less_edge(turns,edge) outer_arcs(disc,vertices)",
    "parts": "parts(graph,line) feet_of(graph,line,members) parts_on(graph,line,vertex) chords(graph,path)"
             " rim_parts(disc,line) is_three_footed(disc,line) worst_part(disc,line) is_way(disc,v,edge,u,thing)"
             " way_fault(disc,v,edge,u,thing)",
    "walks": "is_walk(graph,thing) is_home(graph,thing) visits(walk) twice(walk) edge_uses(walk) first_fault(graph,walk)"
             " triples_for(graph,walk) begun_at(walk,vertex) merged(walk,other,vertex) unpaired(walk,edge)"
             " first_comings(walk)",
    "stretches": "hangings(disc,arc,path) stretches(disc,arc,path) stretch_vertices(disc,arc,path,stretch)"
                 " standing(disc,arc,path,stretch) shut_off(disc,arc,path,stretch) arc_left(disc,arc,path)"
                 " led_anew(arc,stretch,line)",
    "chains": "side(disc,v,edge,u) is_side(disc,v,edge,u,thing) kept(disc,arc,y) chain(disc,arc,y,u)"
              " hung_at(graph,members,links,vertex) chain_exit(disc,arc,back,links)",
    "ways": "way(disc,v,edge,u) way_by_each(disc,v,u) way_to_each(disc,v,edge) way_in_face(turns,face,v,edge,u)"
            " way_round(disc,v,edge)",
    "ownfeet": "own_feet(graph,line,spared) is_own_feet(graph,line,spared,thing) crowded(graph,line,spared)"
               " is_crowded(graph,line,spared,thing) own_way(disc,v,edge,u,spared)"
               " is_own_way(disc,v,edge,u,spared,thing) own_ways(disc,v,edge,u) nobodys(line,own)",
    "two": "all_ways(disc,v,edge,u) spares(disc,v,edge,u,spared) spare_papers(disc,v,edge,u,spared)"
           " most_spared(disc,v,edge,u) counter_disc(kind) is_counter(thing) next_way(disc,v,edge,u,spared)",
    "rounds": "round_through(disc,p,q) is_round(disc,spared,thing) round_by(disc,edge,other) all_rounds(disc)"
              " rounds_sparing(disc,spared) top_round(turns) is_top_round(turns,thing)",
    "strands": "strand(disc,cycle,members,foot) is_strand(disc,cycle,members,foot,thing)"
               " outside_feet(disc,cycle,members,vertex) change_overs(disc,cycle,members,foot)"
               " strand_disc(disc,members,foot,block) strand_walk(disc,cycle,members,foot)"
               " is_strand_walk(disc,cycle,members,foot,thing)",
    "homes": "disc_home(disc,p,q) is_disc_home(disc,p,q,thing) open_home(disc,p,q) closed_home(turns,edge) home(turns)"
             " home_by(turns,edge) main(graph) is_main(graph,thing) sure_word(graph)",
    "spans": "is_thick(graph) is_round_over(graph,gone,thing) is_path_over(graph,a,b,thing) round_over(turns)"
             " path_over(turns,a,b) round_without(turns,vertex) round_over_by(turns,face,edge,other)",
    "trees": "is_tree(graph,thing) is_low_tree(graph,leaf,thing) degrees(size,tree) tree_path(tree,a,b)"
             " walk_round(tree,vertex) tree(turns,leaf) disc_tree(disc,leaf)",
    "pairs": "limbs(graph) torso(graph,limb) limbs_holding(graph,vertex) limb_pairs(graph) visits_let(graph)"
             " spliced(walk,edge,closed,opened,stays) home_by_limbs(turns) is_home_by_limbs(graph,thing)",
    "books": "is_book(thing) crossing(pairs) book_turns(book) book_of(turns,cycle) rows_of(book) book_of_rows(rows)"
             " moved_on(book) swapped(book) read_back(book)",
    "edits": "seat(turns,home,face) can_seat(home,face) halve(turns,home,face,edge) can_halve(home,face,edge)"
             " cut_corner(turns,home,vertex) chord(turns,home,face,a,b) deed_done(turns,home,deed) all_done(turns,home,deeds)",
    "judge": "is_claim(thing) is_so(claim) paths_apart(graph,a,b,many) claim_paper(claim) is_claim_paper(claim,thing)"
             " shows(claim,thing) not_so(claims) words_so(claims) turned_by(claims,pair)",
    "texts": "graph_text(graph) turns_text(turns) walk_text(walk) graph_read(text) turns_read(text) walk_read(text)",
    "desk": "is_request(thing) replies(requests) last_turns(requests) last_walk(requests)",
}

# The methods of the class in yards.py and their parameters behind self.
YARD = {"__init__": [], "lay": ["turns"], "do": ["deed"], "undo": [], "redo": [], "turns": [], "walk": [], "triples": [],
        "deeds": []}

FIVE = made.complete(5)
STEPS = tuple(sorted(slow.edges(FIVE)))
WHEEL = ((1, 4, 3), (0, 2, 4), (1, 3, 4), (0, 4, 2), (0, 1, 2, 3))
SPOKES = slow.graph_in(WHEEL)
# A fit value for each parameter, whatever function it belongs to.
VALUES = {"size": 5, "edges": ((0, 1), (2, 1)), "graph": SPOKES, "gone": (4,), "a": 0, "b": 2, "c": 1, "d": 3,
          "edge": (0, 1), "members": (3,), "vertices": (1, 3), "many": 3, "most": 3, "vertex": 1, "turns": WHEEL,
          "other": (0, 4, 1), "face": (1, 2, 3, 0), "ends": (0, 2), "cycle": (3, 2, 1, 0), "line": (0, 1, 2),
          "faces": ((4, 1, 0),), "paper": ("five", (0, 1, 2, 3, 4), STEPS), "names": (5, 1, 2, 3, 4), "path": (0, 1, 2),
          "disc": (WHEEL, (0, 1, 2, 3)), "block": (0, 1, 2, 3), "v": 0, "u": 2, "thing": (0, 1, 4, 3, 2),
          "walk": (0, 1, 4, 0, 1, 2, 3), "arc": (0, 1, 2), "stretch": (0, 2), "y": 3, "back": (3,),
          "links": (((3, 4), 3, 4),), "spared": (), "own": (0,), "kind": "ends", "p": 0, "q": 1, "foot": 0, "leaf": 0,
          "tree": ((0, 1), (1, 2), (2, 3), (3, 4)), "limb": ((0, 1, 2, 3, 4), ()), "closed": (0, 5, 1, 6), "opened": (0, 7, 1),
          "stays": True, "pairs": ((0, 2), (1, 3)), "book": (6, ((0, 2), (0, 3)), ((1, 5),)),
          "rows": (((0, 1), (0, 0), (1, 0), (0, 0)), ((0, 0), (0, 1), (0, 0), (1, 0))), "home": ((0, 1, 4, 2, 3), ()),
          "text": "walk 0", "deed": ("corner", 1), "deeds": (("corner", 1), ("seat", (0, 9, 1))), "claim": ("held", SPOKES),
          "claims": (("held", SPOKES), ("flat", FIVE)), "pair": (0, 1), "requests": ("seat 0 1 3", "fly", "undo")}
BELL = {"disc": (((1, 2, 3), (0, 4, 5, 2), (0, 1, 5, 6), (0, 6, 5, 4), (1, 3, 5), (1, 4, 3, 6, 2), (2, 5, 3)), (0, 2, 1)),
        "cycle": (0, 1, 2), "members": (3, 4, 5, 6), "vertex": 5, "block": (3, 4, 5, 6)}
CROWN = {"turns": ((1, 3, 5, 2), (0, 2, 4, 3), (0, 5, 4, 1), (0, 1, 4, 5), (1, 2, 5, 3), (0, 3, 4, 2)), "face": (0, 1, 2), "other": (1, 2)}
OWN = {**dict.fromkeys(("round_over", "path_over", "round_without", "round_over_by"), CROWN),
       **dict.fromkeys(("seat", "can_seat", "halve", "can_halve"), {"face": (4, 1, 0)}), "book_of": {"cycle": (0, 1, 4, 2, 3)},
       "graph_read": {"text": "graph 3\n0 1 2"}, "turns_read": {"text": "turns 2\n1\n0"}, "walk_read": {"text": "walk 2 0"},
       "crowded": {"spared": (0, 1, 2)}, "own_way": {"spared": 2}, "next_way": {"u": 3, "spared": (0, 3)},
       "round_by": {"other": (2, 3)},
       "led_anew": {"line": (0, 4, 2)}, "chain": {"u": 4}, "hung_at": {"members": (3, 4), "vertex": 4},
       "way_round": {"edge": (2, 3)},
       "face_of": {"b": 1}, "alike": {"other": WHEEL}, "are_same": {"other": WHEEL}, "outer_arcs": {"vertices": (0, 2)},
       "forbidden": {"graph": FIVE}, "bared": {"graph": FIVE}, "block_disc": {"gone": (0,), "block": (1, 2, 3, 4)}}


def listed():
    """The file, the function and its parameters, each one of the interface."""
    for file, text in INTERFACE.items():
        for word in text.split():
            name, _, rest = word[:-1].partition("(")
            yield file, name, rest.split(",")


def function_of(file, name):
    return getattr(import_module("threefeet." + file), name)


def values_for(name, parameters):
    rest = {"path": (3,)} if "arc" in parameters else BELL if "foot" in parameters or name == "outside_feet" else {}
    return [OWN.get(name, rest).get(own, VALUES[own]) for own in parameters]


def package_folder():
    return os.path.dirname(os.path.abspath(errors.__file__))


def drawn_from(file):
    """The files of the package that this file imports from, and the names."""
    with open(os.path.join(package_folder(), file + ".py")) as held:
        tree = ast.parse(held.read())
    for node in ast.walk(tree):
        if isinstance(node, ast.ImportFrom) and node.module.startswith("threefeet"):
            for own in node.names:
                yield node.module.partition(".")[2], own.name


class Errors(DoorCase):

    def test_each_error(self):
        kept = {"NoVertex": ("vertex", 3), "NoEdge": ("edge", (1, 0)), "NoFace": ("face", (0, 2)), "BadText": ("line", 4)}
        for name, base in BASES.items():
            kind = getattr(errors, name)
            self.assertEqual((kind.__bases__, kind.__module__), ((base,), "threefeet.errors"))
            if name in kept:
                word, value = kept[name]
                self.assertEqual(list(inspect.signature(kind).parameters), [word])
                for own in (kind(value), kind(**{word: value})):
                    self.assertEqual(vars(own), {word: value})
            else:
                self.assertEqual(vars(kind()), {})

    def test_no_others(self):
        found = {name for name, own in vars(errors).items() if inspect.isclass(own)}
        self.assertEqual(found, set(BASES))

    def test_raised_and_caught(self):
        with self.assertRaises(LookupError):
            raise errors.NoVertex(3)
        with self.assertRaises(ValueError):
            raise errors.BadText(0)


class Interface(DoorCase):

    def test_names_and_parameters(self):
        for file, name, parameters in listed():
            function = function_of(file, name)
            self.assertTrue(inspect.isfunction(function), name)
            self.assertEqual(function.__module__, "threefeet." + file)
            self.assertEqual(list(inspect.signature(function).parameters), parameters, name)

    def test_the_order_of_the_files(self):
        found = {name[:-3] for name in os.listdir(package_folder()) if name.endswith(".py")}
        self.assertEqual(found, {*ORDER, "__init__"})
        for place, file in enumerate(ORDER):
            for other, name in drawn_from(file):
                self.assertIn(other, ORDER[:place], (file, name))
                own = function_of(other, name)
                self.assertEqual(own.__module__, "threefeet." + other)

    def test_the_yard(self):
        """Each of its methods stands in the class itself."""
        self.assertEqual((Yard.__module__, Yard.__bases__), ("threefeet.yards", (object,)))
        for name, parameters in YARD.items():
            method = vars(Yard)[name]
            self.assertTrue(inspect.isfunction(method), name)
            self.assertEqual(list(inspect.signature(method).parameters), ["self"] + parameters)
        self.assertEqual({name for name in vars(Yard) if not name.startswith("_")}, set(YARD) - {"__init__"})

    def test_importing_the_package_binds_no_name_of_a_file(self):
        import threefeet
        names = {name for _, name, _ in listed()} - {file for file, _, _ in listed()}
        self.assertFalse(names & set(vars(threefeet)))


class Calls(DoorCase):

    def test_by_position_and_by_name(self):
        for file, name, parameters in listed():
            function = function_of(file, name)
            values = values_for(name, parameters)
            due = function(*values)
            pairs = list(zip(parameters, values))
            self.same(function(**dict(pairs)), due)
            self.same(function(**dict(pairs[::-1])), due)
            self.same(function(values[0], **dict(pairs[1:])), due)

    def test_the_yard_by_position_and_by_name(self):
        told = []
        for call in ((lambda yard: yard.lay(WHEEL), lambda yard: yard.do(("corner", 1))),
                     (lambda yard: yard.lay(turns=WHEEL), lambda yard: yard.do(deed=("corner", 1)))):
            yard = Yard()
            for own in call:
                self.assertIsNone(own(yard))
            self.assertIsNone(yard.undo())
            self.assertIsNone(yard.redo())
            told.append(repr((yard.turns(), yard.walk(), yard.triples(), yard.deeds())))
            self.assertEqual(told[-1], repr((yard.turns(), yard.walk(), yard.triples(), yard.deeds())))
        self.assertEqual(told[0], told[1])

    def test_equal_calls_have_equal_answers(self):
        """Also behind other calls, in the other order too."""
        lot = list(listed())
        first = [repr(function_of(file, name)(*values_for(name, own))) for file, name, own in lot]
        second = [repr(function_of(file, name)(*values_for(name, own))) for file, name, own in lot[::-1]]
        self.assertEqual(first, second[::-1])

    def test_equal_answers_where_there_is_a_choice(self):
        one = [self.choices(graph) for graph in made.many_graphs(9, 40, 1)]
        two = [self.choices(graph) for graph in made.many_graphs(9, 40, 1)[::-1]]
        self.assertEqual(one, two[::-1])

    def choices(self, graph):
        asked = (("graphs", "shortest_path", (0, len(graph) - 1, ())), ("cuts", "least_cut_between", (0, 1)),
                 ("drawings", "draw", ()), ("drawings", "join_row", ()), ("forbidden", "forbidden", ()),
                 ("forbidden", "bared", ()), ("homes", "main", ()), ("ownfeet", "own_feet", ((0,), ())),
                 ("ownfeet", "crowded", ((0,), (0,))), ("judge", "paths_apart", (0, 1, 2)), ("pairs", "limbs", ()))
        found = []
        for file, name, rest in asked:
            try:
                found.append(function_of(file, name)(graph, *rest))
            except (LookupError, ValueError) as error:
                found.append((type(error).__name__, vars(error)))
        return repr(found)

    def test_arguments_stay_and_answers_are_tuples(self):
        for file, name, own in listed():
            values = values_for(name, own)
            before = repr(values)
            got = function_of(file, name)(*values)
            self.assertNotIn(type(got), (list, dict, set))
            self.assertNotIn("[", repr(got))
            self.assertEqual(repr(values), before)

    def test_judges_answer_every_thing(self):
        for file, name, own in listed():
            if own[-1] == "thing":
                function = function_of(file, name)
                for thing in made.OTHERS:
                    got = function(*values_for(name, own)[:-1], thing)
                    if name != "shows" or got is not None:
                        self.assertIs(type(got), str if name == "way_fault" else bool)

    def test_somewhat_beyond_the_bounds(self):
        own = made.Map(6, 44, 140, True)
        graph, turns = own.graph, own.turns
        disc = (turns, own.outside())
        edge = own.pairs[0] if own.pairs[0][0] < own.pairs[0][1] else own.pairs[0][::-1]
        small = made.Map(6, 18, 60, True)
        self.same(function_of("cuts", "separators")(made.ring_graph(6), 4), slow.separators(made.ring_graph(6), 4))
        self.same(function_of("cuts", "least_separator")(made.complete(7), 5), None)
        self.same(function_of("cuts", "connectivity")(graph), 3)
        self.same(len(function_of("cuts", "blocks")(graph)), 1)
        self.same(function_of("drawings", "can_draw")(graph), True)
        self.same(function_of("drawings", "is_drawing")(graph, function_of("drawings", "draw")(graph)), True)
        self.same(slow.is_join_row(small.graph, function_of("drawings", "join_row")(small.graph)), True)
        self.same(function_of("drawings", "alike")(turns, turns), True)
        whole = made.complete(19)
        self.same(slow.is_forbidden(whole, function_of("forbidden", "forbidden")(whole)), True)
        self.same(function_of("discs", "is_solid")(disc), True)
        self.same(slow.is_disc(function_of("discs", "less_vertex")(turns, 9)[1]), True)
        self.same(len(function_of("discs", "less_edge")(turns, edge)[1]), 4)
        self.same(function_of("parts", "parts")(graph, disc[1]), slow.parts(graph, disc[1]))
        walk = made.grown_walk(graph, Random(1))
        self.same(function_of("walks", "is_walk")(graph, walk), True)
        self.same(len(function_of("walks", "edge_uses")(walk * 2)), len(set(slow.steps(walk))))
        self.same(function_of("walks", "first_fault")(small.graph, (0, 0)), ("edge", 0))
        rim = disc[1]
        self.same(function_of("stretches", "hangings")(disc, rim[:2], rim[2:]), slow.hangings(disc, rim[:2], rim[2:]))
        self.assertEqual(slow.way_fault(disc, rim[0], tuple(sorted(rim[1:3])), 9, function_of("ways", "way")(
            disc, rim[0], tuple(sorted(rim[1:3])), 9)), "")
        own = function_of("ownfeet", "own_way")(disc, rim[0], tuple(sorted(rim[1:3])), 9, rim[1])
        self.assertTrue(slow.is_own_way(disc, rim[0], tuple(sorted(rim[1:3])), 9, (rim[1],), own))
        self.assertTrue(slow.is_round(disc, rim[:2], function_of("rounds", "round_through")(disc, rim[0], rim[1])))
        self.assertTrue(slow.is_disc_home(disc, rim[0], rim[1], function_of("homes", "disc_home")(disc, rim[0], rim[1])))
        self.assertTrue(slow.is_home(small.graph, function_of("homes", "home")(small.turns)))
        self.assertTrue(slow.is_home(small.graph, function_of("homes", "main")(small.graph)[1]))
        self.assertEqual(function_of("homes", "sure_word")(made.complete(18)), "forbidden")

    def test_stages_five_and_six_somewhat_beyond_the_bounds(self):
        dice = Random(2)
        drum = made.drum(9)
        graph = slow.graph_in(drum)
        self.assertTrue(slow.is_round_over(graph, (), function_of("spans", "round_over")(drum)))
        self.assertTrue(slow.is_path_over(graph, 3, 11, function_of("spans", "path_over")(drum, 3, 11)))
        over = tuple(range(44))
        self.assertIs(function_of("spans", "is_round_over")(made.ring_graph(44), (), over), True)
        turns = made.stacked(dice, 24)
        self.assertTrue(slow.is_low_tree(slow.graph_in(turns), 5, function_of("trees", "tree")(turns, 5)))
        own = made.Limbed(dice, 20)
        self.same(function_of("pairs", "limbs")(slow.graph_in(own.turns)), own.limbs)
        walk = function_of("pairs", "home_by_limbs")(own.turns)
        self.assertTrue(slow.is_home_by_limbs(slow.graph_in(own.turns), own.limbs, walk))
        book = made.random_book(dice, 44)
        self.same(function_of("books", "book_of")(function_of("books", "book_turns")(book), over), (over, book))
        self.same(function_of("books", "book_of_rows")(function_of("books", "rows_of")(book)), book)
        home = function_of("homes", "home")(turns)
        vertex = [a for a in range(24) if len(turns[a]) == 3][0]
        new, led = function_of("edits", "cut_corner")(turns, home, vertex)
        self.assertTrue(slow.is_home(slow.graph_in(new), led))
        self.assertEqual(len(function_of("judge", "paths_apart")(slow.graph_in(made.drum(22)), 0, 35, 4)), 4)
        self.assertIs(function_of("judge", "is_claim")(("held", made.ring_graph(60))), True)
        self.assertEqual(function_of("texts", "graph_text")(made.ring_graph(44))[:8], "graph 44")
