"""The whole document: all papers of the package, all names of the interface, and the facts that hold between modules."""

import importlib
import itertools
import random

from littlewebs.closed import Closed, Trace, alike_traces
from littlewebs.foldings import Folded, Told, foldings, told_by_trees
from littlewebs.led import Led, Unlike, alike_sums
from littlewebs.maps import maps, pieces
from littlewebs.papers import Denial, Paper, fixed
from littlewebs.polynomials import Both, Length, Rounds, alike_both, alike_rounds
from littlewebs.trees import Look, Parted, alike_trees, shares
from littlewebs.turns import order_of, switched, switching_lots, switching_table
from littlewebs.twisted import Evenly, Oddly, even_web, lies_oddly, over, twisted_web
from littlewebs.webs import Web
from littlewebs.words import little_of, round_of, sum_of, trace_of
from tests.helpers import Case, full, lines, mixed_up, ring, some_web, some_webs, way, words_in
from tests.values import ANY

# All classes of papers, their words, and the attributes of their parts.
PAPERS = {
    Led: "table", Closed: "words", Rounds: "polynomial", Both: "polynomial opposite", Told: "", Oddly: "places lot", Parted: "kinds",
}
DENIALS = {Unlike: "letters", Trace: "letters", Length: "number", Folded: "web", Evenly: "", Look: "number"}

# All modules of the interface, with their functions and the parameters of these.
FUNCTIONS = {
    "checks": {"is_integer": "value", "is_within": "value least most", "are_numbers": "value", "first_twice": "values"},
    "papers": {"fixed": "value"},
    "fractions": {
        "is_fraction": "value", "lowest": "top bottom", "plus": "one other", "less": "one other", "times": "one other", "over": "one other",
    },
    "webs": {"Web": "places ties"},
    "maps": {"maps": "little web", "one_to_one": "little web", "pieces": "little web", "selfmaps": "little"},
    "words": {
        "is_word": "value", "are_letters": "value", "sum_of": "web word", "trace_of": "web word", "walks": "web word place",
        "little_of": "word", "round_of": "word",
    },
    "led": {"basis": "web letters", "alike_sums": "one other letters"},
    "check_led": {"shows_sums": "one other letters value"},
    "closed": {"alike_traces": "one other letters"},
    "check_closed": {"shows_traces": "one other letters value"},
    "polynomials": {
        "polynomial_of": "web colour", "traces_from": "polynomial many", "polynomial_from": "traces",
        "opposite_from": "polynomial sums", "alike_rounds": "one other colour", "alike_both": "one other colour",
    },
    "check_polynomials": {"shows_rounds": "one other colour value", "shows_both": "one other colour value"},
    "turns": {
        "is_turn": "table", "order_of": "table", "spans": "web letters", "switched": "web colour lots",
        "switching_table": "web lots", "switching_lots": "web colour",
    },
    "foldings": {"foldings": "little", "by_maps": "little", "by_pieces": "little", "told_by_trees": "little"},
    "twisted": {"even_web": "base", "twisted_web": "base", "over": "base", "lies_oddly": "little base"},
    "check_twisted": {"shows_oddly": "little base value"},
    "trees": {"alike_trees": "one other", "shares": "one other"},
}

WEB_METHODS = "tied neighbours degree renamed beside opposite is_joined is_tree plain read __eq__ __str__".split()


class LikeWeb(Web):
    """A class below Web."""


class Interface(Case):
    def test_names_and_files(self):
        for module, told in FUNCTIONS.items():
            self.assert_signatures(module, told)
        for name in WEB_METHODS:
            self.assertIn(name, vars(Web))

    def test_papers_are_defined_in_their_files(self):
        files = {"led": (Led, Unlike), "closed": (Closed, Trace), "polynomials": (Rounds, Both, Length), "foldings": (Told, Folded),
                 "twisted": (Oddly, Evenly), "trees": (Parted, Look)}
        for file, kinds in files.items():
            for kind in kinds:
                self.assertEqual(kind.__module__, f"littlewebs.{file}")
                self.assertIs(getattr(importlib.import_module(f"littlewebs.{file}"), kind.__name__), kind)


class AllPapers(Case):
    def all_kinds(self):
        return [(kind, names.split()) for kind, names in {**PAPERS, **DENIALS}.items()]

    def test_papers_and_denials(self):
        for kind in PAPERS:
            self.assertEqual(kind.__bases__, (Paper,))
        for kind in DENIALS:
            self.assertEqual(kind.__bases__, (Denial,))
        for kind, names in self.all_kinds():
            paper = kind(*names)
            self.assertEqual([paper.word, bool(paper)], [kind.__name__.lower(), kind in PAPERS])

    def test_parts_are_kept_as_fixed_gives_them(self):
        for kind, names in self.all_kinds():
            for value in ANY + ([[1, (2, [3])], []], ([None], {"a": [1]}), way(3), [way(2)]):
                values = [value, (1, [2])][:len(names)]
                for paper in (kind(*values), kind(**dict(zip(names, values)))):
                    self.assertEqual(len(paper.parts), len(names))
                    for name, part, passed in zip(names, paper.parts, values):
                        self.assertIs(getattr(paper, name), part)
                        if isinstance(passed, (list, tuple)):
                            self.assertEqual(repr(part), repr(fixed(passed)))
                        else:
                            self.assertIs(part, passed)

    def test_what_is_passed_is_copied(self):
        for kind, names in self.all_kinds():
            passed = [[1], [2, [3]]]
            paper = kind(*[passed] * len(names))
            passed[1][1].append(4)
            passed.append(5)
            self.assertEqual(paper.parts, (((1,), (2, (3,))),) * len(names))

    def test_equality(self):
        for (one, names), (two, others) in itertools.product(self.all_kinds(), repeat=2):
            for value in (0, "a", (1, 2)):
                self.assertIs(one(*[value] * len(names)) == two(*[value] * len(others)), one is two)
        for kind, names in self.all_kinds():
            class Below(kind):
                """A class below this one."""
            self.assertIs(kind(*names) == Below(*names), False)
            self.assertIs(Below(*names) == kind(*names), False)
            self.assertIs(kind(*names) == (Paper if kind in PAPERS else Denial)(kind.__name__.lower(), *names), False)
            for at in range(len(names)):
                changed = names[:at] + ["another"] + names[at + 1:]
                self.assertIs(kind(*names) == kind(*changed), False)
            for value in ANY:
                self.assertIs(kind(*names) == value, type(value).__name__ == "Alike")


class Values(Case):
    def test_webs_of_another_class(self):
        self.assertIs(Web(2, [(0, 1, "a")]) == LikeWeb(2, [(0, 1, "a")]), False)
        self.assertIs(LikeWeb(2, [(0, 1, "a")]) == Web(2, [(0, 1, "a")]), False)
        self.assertIs(LikeWeb(2, []) == LikeWeb(2, []), True)

    def test_again_with_equal_arguments(self):
        for web in some_webs(320, 20, 6, "ab"):
            same = Web.read(str(web))
            self.assertEqual(lies_oddly(web, full(3)), lies_oddly(same, ring(3)))
            self.assertEqual(alike_sums(web, web, "ab"), alike_sums(same, same, "ab"))

    def test_no_value_changes(self):
        web = Web.read("6 : 0a1 0a2 1a2 2a3 3a4")
        before = str(web)
        foldings(web)
        for other in (web, ring(6)):
            alike_trees(web, other), alike_traces(web, other, "aA"), alike_sums(web, other, "aA"), alike_both(web, other, "a")
        lies_oddly(web, ring(3)), switching_lots(web, "a"), maps(web, web), pieces(web, web)
        self.assertEqual([str(web), web.parts], [before, ((0, 1, 2, 3, 4), (5,))])


class Facts(Case):
    def test_sums_and_traces_are_maps(self):
        for web in some_webs(321, 12, 6, "ab"):
            for word in words_in("abAB", 3) + ["aabb", "AAAA", "abAba", "BaabB", "aaaaaa"]:
                self.assertEqual(sum_of(web, word), maps(little_of(word), web))
            for word in ("aaa", "aab", "abab", "aabba", "bbbbbb", "ababab"):
                self.assertEqual(trace_of(web, word), maps(round_of(word), web))

    def test_words_count_trees(self):
        for word in words_in("aAbB", 4):
            self.assertIs(little_of(word).is_tree(), True)

    def test_one_table_leads_all_words_and_trees_that_are_words(self):
        chance = random.Random(322)
        pairs = [(web, mixed_up(chance, web)) for web in some_webs(323, 10, 7, "ab")]
        pairs += [(ring(6), ring(3).beside(ring(3))), (lines(8, (1, 4)), lines(8, (1, 4)).renamed([4, 5, 6, 7, 0, 1, 2, 3]))]
        for one, other in pairs:
            self.assertIs(bool(alike_trees(one, other)), True)
            self.assertEqual(type(shares(one, other)), Led)
            for letters in ("a", "aA", "abAB"):
                self.assertIs(bool(alike_sums(one, other, letters)), True)

    def test_webs_alike_to_trees_have_as_many_pieces_like_stars(self):
        stars = [Web(many, [(0, other, "a") for other in range(1, many)]) for many in range(1, 7)] + [Web.read("4 : 0a1 0b2 0a3")]
        for little in stars:
            self.assertEqual(told_by_trees(little), Told())
        pairs = [(ring(6), ring(3).beside(ring(3))), (lines(8, (1, 2)), lines(8, (1, 4)).beside(Web(1, [])))]
        pairs += [(even_web(base), twisted_web(base)) for base in (ring(3), ring(4), Web.read("4 : 0a1 0b2 0a3 1b2"))]
        for one, other in pairs:
            if alike_trees(one, other):
                for little in stars:
                    self.assertEqual(pieces(little, one), pieces(little, other))
        self.assertEqual([pieces(ring(3), web) for web in pairs[0]], [0, 2])

    def test_what_is_not_told_by_trees(self):
        # Over the web to which a folding leads, the even and the twisted web are alike to trees, and pieces are unlike many.
        many = 0
        for little in some_webs(324, 80, 5, "ab") + [way(4), way(5), ring(5), full(4), Web.read("5 : 0a1 1b2 2a3 3b4")]:
            if little.is_joined():
                paper = told_by_trees(little)
                if type(paper) is Folded and sum(2 ** (sum(paper.web.degree(place, c) for c in "abcd") - 1) for place in range(paper.web.places)) <= 24:
                    many += 1
                    one, other = even_web(paper.web), twisted_web(paper.web)
                    self.assertIs(bool(alike_trees(one, other)), True)
                    self.assertNotEqual(pieces(little, one), pieces(little, other))
                    self.assertGreater(maps(paper.web, one), maps(paper.web, other))
        self.assertGreater(many, 15)

    def test_twisted_webs_and_foldings(self):
        # Of the webs to which foldings lead, just those that are the base itself are counted unlike.
        for base in (ring(3), ring(4), Web.read("4 : 0a1 0a2 1a2 2a3"), full(4), Web.read("4 : 0a1 0b2 0a3 1b2")):
            one, other = even_web(base), twisted_web(base)
            for little in (way(4), way(5), ring(4), ring(5), full(4), Web.read("5 : 0a1 0a2 1a2 2a3 3a4")):
                for web, _ in foldings(little):
                    if web.places <= base.places:
                        unlike = maps(web, one) != maps(web, other)
                        self.assertIs(unlike, web == base.plain())
                        self.assertIs(unlike, lies_oddly(web, base).word == "oddly")

    def test_maps_into_even_webs_are_over_maps_into_the_base(self):
        for base in (ring(3), way(3), Web.read("4 : 0a1 0a2 1a2 2b3")):
            below = over(base)
            for web in (even_web(base), twisted_web(base)):
                for one, other, colour in web.ties:
                    self.assertEqual(base.tied(below[one], below[other]), colour)

    def test_trees_and_what_they_tell(self):
        for base in some_webs(325, 60, 5, "ab"):
            if base.is_joined() and base.ties and sum(2 ** (sum(base.degree(place, c) for c in "ab") - 1) for place in range(base.places)) <= 24:
                alike = alike_trees(even_web(base), twisted_web(base))
                self.assertIs(bool(alike), not base.is_tree())
                if alike:
                    self.assertIs(bool(alike_sums(even_web(base), twisted_web(base), "abAB")) if even_web(base).places <= 12 else True, True)

    def test_switched_webs(self):
        chance = random.Random(326)
        many = 0
        for _ in range(40):
            web = some_web(chance, chance.randint(4, 6), "a", 0.5)
            for lot in switching_lots(web, "a"):
                many += 1
                other = switched(web, "a", [lot])
                for word in words_in("a", 7):
                    self.assertEqual(sum_of(web, word), sum_of(other, word))
                self.assertEqual([alike_sums(web, other, "a").word, alike_traces(web, other, "a").word], ["led", "closed"])
                self.assertEqual([alike_rounds(web, other, "a").word, alike_both(web, other, "a").word], ["rounds", "both"])
                self.assertEqual(order_of(switching_table(web, [lot])) is not None, len(lot) <= 2)
        self.assertGreater(many, 20)

    def test_closed_words_of_one_colour_and_polynomials(self):
        for one, other in itertools.combinations(some_webs(327, 25, 5, "a"), 2):
            if one.places == other.places:
                traces, rounds = alike_traces(one, other, "a"), alike_rounds(one, other, "a")
                self.assertIs(bool(traces), bool(rounds))
                if type(traces) is Trace:
                    self.assertEqual(rounds, Length(len(traces.letters)))
                both, sums = alike_both(one, other, "a"), alike_sums(one, other, "a")
                self.assertIs(bool(both), bool(traces) and bool(sums))
