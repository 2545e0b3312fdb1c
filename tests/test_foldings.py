"""[11] Foldings: against plain parting of the places, and what is counted through them."""

import itertools
import random
from math import factorial

from littlewebs.errors import BadLittle, Misfit, TooMany
from littlewebs.foldings import Folded, Told, by_maps, by_pieces, foldings, told_by_trees
from littlewebs.maps import maps, one_to_one, pieces, selfmaps
from littlewebs.papers import Denial, Paper
from littlewebs.webs import Web
from tests.helpers import Case, full, mixed_up, ring, some_web, some_webs, way
from tests.values import ANY

ALL = (foldings, by_maps, by_pieces, told_by_trees)

# Joined and not, of one to three colours.
LITTLE = some_webs(270, 50, 5, "abc") + some_webs(271, 12, 6, "ab") + [
    Web(1, []), Web(5, []), way(6), ring(6), full(6), Web.read("6 : 0a1 2a3 4a5"), Web.read("6 : 0a1 0a2 0b3 0b4 0c5"), way(5, "d"),
    Web.read("6 : 0a1 0a2 1a2 3a4 3a5 4a5"), Web.read("6 : 0a3 0a4 0a5 1a3 1a4 1a5 2a3 2a4 2a5"),
]


def star(many, colour="a"):
    return Web(many, [(0, other, colour) for other in range(1, many)])


def partings(places):
    """All partings of the places into lots, by where each next place goes."""
    if not places:
        yield []
        return
    for lots in partings(places[:-1]):
        for at in range(len(lots)):
            yield lots[:at] + [lots[at] + [places[-1]]] + lots[at + 1:]
        yield lots + [[places[-1]]]


def plain_foldings(little):
    """Each folding: its lots, and the web to which it leads, not renamed."""
    for lots in partings(list(range(little.places))):
        between = {}
        for (at, one), (to, other) in itertools.product(enumerate(lots), repeat=2):
            colours = {little.tied(a, b) for a in one for b in other} - {None}
            if colours and (at == to or len(colours) > 1):
                break
            if colours and at < to:
                between[at, to] = colours.pop()
        else:
            yield lots, Web(len(lots), [(*pair, colour) for pair, colour in between.items()])


def least_text(web):
    return min(str(web.renamed(order)) for order in itertools.permutations(range(web.places)))


def told(little, number):
    """Pairs of the plain webs and of the numbers of all foldings that lead to each, in order."""
    found = {}
    for lots, web in plain_foldings(little):
        text = least_text(web) if web.places < 6 else str(web.plain())
        found[text] = found.get(text, 0) + number(lots, web)
    return tuple((Web.read(text), found[text]) for text in sorted(found, key=lambda text: (-int(text.split()[0]), text)))


def signed(lots, web):
    number = 1
    for lot in lots:
        number *= factorial(len(lot) - 1) * (-1) ** (len(lot) - 1)
    return number


class Examples(Case):
    def test_of_the_interface(self):
        self.assert_examples("""
>>> row, star = Web.read("4 : 0a1 1a2 2a3"), Web.read("4 : 0a1 0a2 0a3")
>>> [(str(web), ways) for web, ways in foldings(row)]
[('4 : 0a1 0a2 1a3', 1), ('3 : 0a1 0a2', 2), ('3 : 0a1 0a2 1a2', 1), ('2 : 0a1', 1)]
>>> [[number for web, number in by_maps(row)], [number for web, number in by_pieces(row)], by_maps(row)[1][0] == foldings(row)[1][0]]
[[1, -2, -1, 1], [2, 4, 6, 2], True]
>>> [[(str(web), ways) for web, ways in foldings(star)], [number for web, number in by_maps(star)]]
[[('4 : 0a1 0a2 0a3', 1), ('3 : 0a1 0a2', 3), ('2 : 0a1', 1)], [1, -3, 2]]
>>> [(str(web), ways) for web, ways in foldings(Web.read("3 : 0a1 1b2"))]
[('3 : 0a1 0b2', 1)]
>>> [told_by_trees(star).word, told_by_trees(row).word, str(told_by_trees(row).web), str(told_by_trees(Web.read("4 : 0a1 1b2 2a3")).web)]
['told', 'folded', '3 : 0a1 0a2 1a2', '3 : 0a1 0a2 1b2']
>>> told_by_trees(Web(2, []))
raises Misfit('joined')
""", "foldings")

    def test_names_and_files(self):
        self.assert_signatures("foldings", {
            "foldings": "little", "by_maps": "little", "by_pieces": "little", "told_by_trees": "little", "Told": "", "Folded": "web",
        })


class Papers(Case):
    def test_classes(self):
        self.assertEqual([Told.__bases__, Folded.__bases__], [(Paper,), (Denial,)])
        self.assertEqual([Told().word, bool(Told()), Told().parts], ["told", True, ()])

    def test_any_parts(self):
        for value in ANY:
            folded = Folded(value)
            with self.subTest(value=value):
                self.assertEqual([folded.word, bool(folded), len(folded.parts)], ["folded", False, 1])
                if not isinstance(value, (list, tuple)):
                    self.assertIs(folded.web, value)
                    self.assertIs(folded.parts[0], value)
        self.assertEqual(Folded(web=[1, [2]]).web, (1, (2,)))

    def test_equality(self):
        self.assertIs(Told() == Told(), True)
        self.assertIs(Told() == Paper("told"), False)
        self.assertIs(Folded(way(2)) == Folded(Web.read("2 : 0a1")), True)
        self.assertIs(Folded(way(2)) == Folded(way(3)), False)
        self.assertIs(Folded(way(2)) == Denial("folded", way(2)), False)
        self.assertIs(Folded("told") == Told(), False)


class Foldings(Case):
    def test_against_plain_parting(self):
        for little in LITTLE:
            with self.subTest(little=str(little)):
                self.assertEqual(foldings(little), told(little, lambda lots, web: 1))

    def test_numbers_of_maps(self):
        for little in LITTLE:
            with self.subTest(little=str(little)):
                self.assertEqual(by_maps(little), told(little, signed))
                self.assertTrue(all(number for _, number in by_maps(little)))

    def test_numbers_of_pieces(self):
        for little in LITTLE:
            with self.subTest(little=str(little)):
                self.assertEqual(by_pieces(little), told(little, lambda lots, web: selfmaps(web)))

    def test_the_same_webs_in_the_same_order(self):
        for little in LITTLE:
            webs = [web for web, _ in foldings(little)]
            self.assertEqual([web for web, _ in by_maps(little)], webs)
            self.assertEqual([web for web, _ in by_pieces(little)], webs)
            self.assertEqual([web.plain() for web in webs], webs)
            self.assertEqual(webs[0], little.plain())

    def test_places_in_another_order(self):
        chance = random.Random(272)
        for little in LITTLE:
            other = mixed_up(chance, little)
            for function in ALL[:3]:
                self.assertEqual(function(other), function(little))

    def test_no_ties(self):
        for places in range(1, 7):
            told = tuple(Web(many, []) for many in range(places, 0, -1))
            self.assertEqual(tuple(web for web, _ in foldings(Web(places, []))), told)
        self.assertEqual([ways for _, ways in foldings(Web(6, []))], [1, 15, 65, 90, 31, 1])
        self.assertEqual([number for _, number in by_maps(Web(6, []))], [1, -15, 85, -225, 274, -120])

    def test_stars_and_rows(self):
        for many in range(1, 7):
            self.assertEqual([web for web, _ in foldings(star(many))], [star(least).plain() for least in range(many, min(many, 2) - 1, -1)])
        # Rows: no place is put together with the next one, so there are as many ways as for one place less without ties.
        for many, ways in ((1, 1), (2, 1), (3, 2), (4, 5), (5, 15), (6, 52)):
            self.assertEqual(sum(number for _, number in foldings(way(many))), ways)

    def test_full_webs_have_one_folding(self):
        for many in range(1, 7):
            self.assertEqual(foldings(full(many)), ((full(many).plain(), 1),))

    def test_kinds_of_answers(self):
        for function in ALL[:3]:
            found = function(little=way(4))
            self.assertEqual([type(found), *map(type, found)], [tuple] * 5)
            self.assertEqual({(type(web), type(number)) for web, number in found}, {(Web, int)})


class Sums(Case):
    def test_maps_and_one_to_one_maps(self):
        webs = some_webs(273, 6, 6, "abc") + some_webs(274, 4, 6, "a") + [full(6), ring(5), Web(3, [])]
        for little in LITTLE:
            for web in webs:
                with self.subTest(little=str(little), web=str(web)):
                    self.assertEqual(sum(number * maps(led, web) for led, number in by_maps(little)), one_to_one(little, web))
                    self.assertEqual(sum(number * pieces(led, web) for led, number in by_pieces(little)), maps(little, web))
                    self.assertEqual(sum(number * one_to_one(led, web) for led, number in foldings(little)), maps(little, web))


class ToldByTrees(Case):
    def assert_told(self, little):
        rounded = [web for web, _ in foldings(little) if not web.is_tree()]
        with self.subTest(little=str(little)):
            self.assertEqual(told_by_trees(little), Folded(rounded[0]) if rounded else Told())
        return not rounded

    def test_stars(self):
        for many in range(1, 7):
            self.assertEqual(told_by_trees(star(many)), Told())
        for text in ("6 : 0a1 0b2 0a3 0c4 0d5", "5 : 0a3 1b3 2a3 3c4", "3 : 0a1 1b2"):
            self.assertIs(self.assert_told(Web.read(text)), True)

    def test_other_trees(self):
        self.assertEqual(told_by_trees(way(6)).word, "folded")
        for text in ("4 : 0a1 1a2 2a3", "6 : 0a1 1a2 2a3 2a4 2a5", "4 : 0a1 1b2 2c3", "4 : 0a1 1b2 2a3"):
            self.assertIs(self.assert_told(Web.read(text)), False)
        # Of places in a row with colours that keep them apart, the ends can be put together still.
        self.assertEqual(str(told_by_trees(Web.read("4 : 0a1 1b2 2c3")).web), "3 : 0a1 0b2 1c2")

    def test_webs_with_rounds(self):
        for little in LITTLE:
            if little.is_joined() and not little.is_tree():
                self.assertEqual(told_by_trees(little), Folded(little.plain()))

    def test_any_joined_webs(self):
        chance = random.Random(275)
        told = [0, 0]
        for _ in range(150):
            little = some_web(chance, chance.randint(1, 6), "ab", 0.4)
            if little.is_joined():
                told[self.assert_told(little)] += 1
                ends = [place for place in range(little.places) if sum(little.degree(place, colour) for colour in "ab") == 1]
                is_star = little.is_tree() and (little.places < 3 or len(ends) == little.places - 1)
                self.assertIs(bool(told_by_trees(little)), is_star)
        self.assertGreater(min(told), 5)

    def test_kind_of_answer(self):
        found = told_by_trees(little=way(4))
        self.assertEqual([type(found), type(found.web), found.web.plain() == found.web], [Folded, Web, True])


class Wrong(Case):
    def test_no_little_web(self):
        for value in ANY + (way(8), Web(8, []), full(24), "2 : 0a1"):
            for function in ALL:
                with self.subTest(value=value):
                    self.assert_error(BadLittle("little"), function, value)
                    self.assert_error(BadLittle("little"), function, little=value)

    def test_six_places_are_let_and_seven_are_not(self):
        for function in ALL:
            self.assert_error(TooMany("places", 6), function, way(7))
            self.assert_error(TooMany("places", 6), function, full(7))
            self.assert_error(BadLittle("little"), function, way(8))
        for function in ALL[:3]:
            self.assert_error(TooMany("places", 6), function, Web(7, []))
            self.assertEqual(len(function(Web(6, []))), 6)
        self.assertEqual(told_by_trees(star(6)), Told())

    def test_webs_that_are_not_joined(self):
        for little in (Web(2, []), Web(7, []), Web.read("6 : 0a1 2a3 4a5"), Web.read("7 : 0a1")):
            self.assert_error(Misfit("joined"), told_by_trees, little)
        self.assert_error(BadLittle("little"), told_by_trees, Web(8, []))
