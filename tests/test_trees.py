"""[13] Trees: kinds of places, looks, and the table of shares."""

import itertools
import random

from littlewebs.check_led import shows_sums
from littlewebs.errors import BadWeb, Misfit
from littlewebs.led import Led, alike_sums
from littlewebs.maps import maps
from littlewebs.papers import Denial, Paper
from littlewebs.trees import Look, Parted, alike_trees, shares
from littlewebs.twisted import even_web, twisted_web
from littlewebs.webs import Web
from littlewebs.words import sum_of
from tests.helpers import COLOURS, Case, full, lines, mixed_up, ring, some_web, some_webs, way, words_in
from tests.values import ANY

LETTERS = ("", "abcd", "ABCD", "aAbB", "dDcC")


def looks(one, other):
    """The kinds behind each look, from none on until they are settled, as lists: each kind told by all that it stands for."""
    places = [(web, place) for web in (one, other) for place in range(web.places)]
    kinds = [0] * len(places)
    found = [kinds]
    while True:
        told = []
        for (web, place), kind in zip(places, kinds):
            start = 0 if web is places[0][0] and len(told) < one.places else one.places
            counts = {}
            for colour in COLOURS:
                for near in web.neighbours(place, colour):
                    key = (colour, kinds[start + near])
                    counts[key] = counts.get(key, 0) + 1
            told.append((kind, sorted(counts.items())))
        kinds = [told.index(key) for key in told]
        if len(set(kinds)) == len(set(found[-1])):
            return found
        found.append(kinds)


def first_met(kinds):
    order = list(dict.fromkeys(kinds))
    return tuple(order.index(kind) for kind in kinds)


def plain_answer(one, other):
    """The paper, by the words of the document."""
    found = looks(one, other)
    for number, kinds in enumerate(found):
        ones, others = kinds[:one.places], kinds[one.places:]
        if any(ones.count(kind) != others.count(kind) for kind in kinds):
            return Look(number)
    return Parted(first_met(found[-1]))


def trees_of(most):
    """Trees of at most so many places of two colours: each place behind the first is tied to one ahead."""
    found = [Web(1, [])]
    for many in range(2, most + 1):
        for tied in itertools.product(*[range(place) for place in range(1, many)]):
            for colours in (("a",) * (many - 1), ("b",) + ("a",) * (many - 2), ("a", "b") * many):
                found.append(Web(many, [(ahead, at + 1, colours[at]) for at, ahead in enumerate(tied)]))
    return found


TREES = trees_of(5)


def rounds_apart(*many):
    web = ring(many[0])
    for places in many[1:]:
        web = web.beside(ring(places))
    return web


class Examples(Case):
    def test_of_the_interface(self):
        self.assert_examples("""
>>> way, star = Web(4, [(0, 1, "a"), (1, 2, "a"), (2, 3, "a")]), Web(4, [(0, 1, "a"), (0, 2, "a"), (0, 3, "a")])
>>> two, six = Web.read("6 : 0a1 0a2 1a2 3a4 3a5 4a5"), Web.read("6 : 0a1 0a5 1a2 2a3 3a4 4a5")
>>> [alike_trees(way, way).kinds, alike_trees(two, six) == Parted([0] * 12), alike_trees(way, star) == Look(1), alike_trees(way, two).number, bool(alike_trees(way, star))]
[(0, 1, 1, 0, 0, 1, 1, 0), True, True, 0, False]
>>> near = Web(6, [(0, 1, "a"), (1, 2, "a"), (2, 3, "a"), (3, 4, "a"), (1, 5, "a")])
>>> far = Web(6, [(0, 1, "a"), (1, 2, "a"), (2, 3, "a"), (3, 4, "a"), (2, 5, "a")])
>>> ab, ba = Web(3, [(0, 1, "a"), (1, 2, "b")]), Web(3, [(0, 1, "b"), (1, 2, "a")])
>>> [alike_trees(near, far).number, alike_trees(ab, ba).kinds, shares(ab, ba).table]
[2, (0, 1, 2, 2, 1, 0), (((0, 1), (0, 1), (1, 1)), ((0, 1), (1, 1), (0, 1)), ((1, 1), (0, 1), (0, 1)))]
>>> [shares(two, six) == Led([[(1, 6)] * 6] * 6), shares(way, way).table[1]]
[True, ((0, 1), (1, 2), (1, 2), (0, 1))]
>>> shares(way, star)
raises Misfit('kinds')
""", "led", "trees")

    def test_names_and_files(self):
        self.assert_signatures("trees", {
            "Parted": "kinds", "Look": "number", "alike_trees": "one other", "shares": "one other",
        })


class Papers(Case):
    def test_classes(self):
        self.assertEqual([Parted.__bases__, Look.__bases__], [(Paper,), (Denial,)])

    def test_any_parts(self):
        for value in ANY:
            parted, look = Parted(value), Look(value)
            with self.subTest(value=value):
                self.assertEqual([parted.word, bool(parted), look.word, bool(look)], ["parted", True, "look", False])
                self.assertEqual([len(parted.parts), len(look.parts)], [1, 1])
                if not isinstance(value, (list, tuple)):
                    for kept in (parted.kinds, parted.parts[0], look.number, look.parts[0]):
                        self.assertIs(kept, value)
        self.assertEqual([Parted(kinds=[0, [1]]).kinds, Look(number=[1]).number], [(0, (1,)), (1,)])

    def test_equality(self):
        self.assertIs(Parted([0, 1]) == Parted((0, 1)), True)
        self.assertIs(Parted([0, 1]) == Parted([1, 0]), False)
        self.assertIs(Look(1) == Look(2), False)
        self.assertIs(Look(1) == Parted(1), False)
        self.assertIs(Look(1) == Denial("look", 1), False)


class AlikeTrees(Case):
    def assert_told(self, one, other):
        told = plain_answer(one, other)
        with self.subTest(one=str(one), other=str(other)):
            self.assertEqual(alike_trees(one, other), told)
            found = alike_trees(other, one)
            if told.word == "look":
                self.assertEqual(found, told)
            else:
                self.assertEqual(found, Parted(first_met(told.kinds[one.places:] + told.kinds[:one.places])))
        return told

    def test_webs_with_their_places_in_another_order(self):
        chance = random.Random(300)
        for web in some_webs(301, 60, 24) + some_webs(302, 30, 6, "ab") + [way(24), full(24), Web(24, []), lines(24, (1, 12))]:
            self.assertEqual(self.assert_told(web, mixed_up(chance, web)).word, "parted")
            self.assert_told(web, web)

    def test_any_two_webs(self):
        chance = random.Random(303)
        words = {"parted": 0, "look": 0}
        for _ in range(300):
            places = chance.randint(1, 7)
            one, other = [some_web(chance, chance.choice((places, places, places + 1)), "ab", 0.4) for _ in range(2)]
            words[self.assert_told(one, other).word] += 1
        self.assertGreater(min(words.values()), 10)

    def test_two_ties_that_changed_ends(self):
        chance = random.Random(304)
        words = {"parted": 0, "look": 0}
        for _ in range(200):
            web = some_web(chance, chance.choice((6, 8, 12, 24)), chance.choice(("a", "ab")), chance.choice((0.2, 0.4)))
            if len(web.ties) < 2:
                continue
            (one, two, colour), (three, four, own) = chance.sample(web.ties, 2)
            if len({one, two, three, four}) == 4 and colour == own and web.tied(one, four) is None and web.tied(three, two) is None:
                ties = [tie for tie in web.ties if tie not in ((one, two, colour), (three, four, colour))]
                other = Web(web.places, ties + [(one, four, colour), (three, two, colour)])
                words[self.assert_told(web, other).word] += 1
        self.assertGreater(words["look"], 20)

    def test_rounds_of_unlike_lengths_side_by_side(self):
        for ones, others in (((3, 3), (6,)), ((3, 4), (7,)), ((12, 12), (24,)), ((3, 5, 16), (8, 8, 8)), ((4, 5), (3, 6))):
            one, other = rounds_apart(*ones), rounds_apart(*others)
            self.assertEqual(self.assert_told(one, other), Parted([0] * (2 * one.places)))
        for ones, others in (((3, 3), (7,)), ((3,), (4,)), ((12,), (24,))):
            self.assertEqual(self.assert_told(rounds_apart(*ones), rounds_apart(*others)), Look(0))
        self.assertEqual(self.assert_told(lines(12, (1, 2)), lines(12, (1, 5))), Parted([0] * 24))

    def test_kinds_are_numbered_as_first_met(self):
        web = Web.read("6 : 0a1 1a2 2b3 3a4")
        self.assertEqual(alike_trees(web, web).kinds, (0, 1, 2, 3, 4, 5) * 2)
        self.assertEqual(alike_trees(web, web.renamed([5, 4, 3, 2, 1, 0])).kinds, (0, 1, 2, 3, 4, 5, 5, 4, 3, 2, 1, 0))

    def test_unlike_many_places(self):
        for one, other in ((way(3), way(4)), (Web(1, []), Web(24, [])), (full(24), full(23)), (Web(2, []), way(3, "c"))):
            self.assertEqual(self.assert_told(one, other), Look(0))

    def test_the_least_number_of_looks(self):
        # A way with one place more beside it, tied to it here or one place farther: seen from its ends, look by look.
        seen = set()
        for many in range(3, 23):
            for at in range(1, many // 2):
                one, other = [Web(24, [(step, step + 1, "a") for step in range(many)] + [(place, 23, "a")]) for place in (at, at + 1)]
                seen.add(self.assert_told(one, other).number)
        self.assertEqual(seen, set(range(2, 7)))

    def test_colours_are_told_apart(self):
        self.assertEqual(self.assert_told(way(4), way(4, "b")), Look(1))
        self.assertEqual(self.assert_told(Web.read("4 : 0a1 1b2 2a3"), Web.read("4 : 0b1 1a2 2b3")), Look(1))
        self.assertEqual(self.assert_told(Web.read("6 : 0a1 1b2 2a3 3b4 4a5"), Web.read("6 : 0a1 1b2 2a3 3a4 4b5")), Look(1))
        one, other = Web.read("6 : 0a1 1b2 3a4 4b5"), Web.read("6 : 0a1 1b2 3a4 4b5").renamed([3, 4, 5, 0, 1, 2])
        self.assertEqual(self.assert_told(one, other), Parted([0, 1, 2] * 4))

    def test_kinds_of_answers(self):
        parted, look = alike_trees(other=way(3), one=way(3)), alike_trees(way(3), ring(3))
        self.assertEqual([parted.word, bool(parted), parted.parts, type(parted.kinds)], ["parted", True, ((0, 1, 0, 0, 1, 0),), tuple])
        self.assertEqual([look.word, bool(look), look.parts, type(look.number)], ["look", False, (1,), int])


class Shares(Case):
    def assert_shares(self, one, other):
        told = looks(one, other)[-1]
        ones, others = told[:one.places], told[one.places:]
        found = shares(one, other)
        table = [[(1, others.count(own)) if own == kind else (0, 1) for kind in others] for own in ones]
        self.assertEqual([type(found), found], [Led, Led(table)])
        if one.places <= 12:
            for letters in LETTERS:
                self.assertIs(shows_sums(one, other, letters, found), True)

    def test_the_table_leads(self):
        chance = random.Random(305)
        for web in some_webs(306, 40, 12, "ab") + some_webs(307, 8, 24) + [Web(1, []), full(24), way(24)]:
            self.assert_shares(web, mixed_up(chance, web))
            self.assert_shares(web, web)
        for one, other in ((rounds_apart(3, 3), ring(6)), (rounds_apart(3, 5), rounds_apart(4, 4)), (lines(12, (1, 2)), lines(12, (1, 5)))):
            self.assert_shares(one, other)

    def test_webs_that_are_not_alike(self):
        many = 0
        for one, other in zip(some_webs(308, 60, 6, "ab"), some_webs(309, 60, 6, "ab")):
            if not alike_trees(one, other):
                many += 1
                self.assert_error(Misfit("kinds"), shares, one, other)
        self.assertGreater(many, 20)
        self.assert_error(Misfit("kinds"), shares, other=way(24), one=way(23))


class Facts(Case):
    def test_trees_have_as_many_maps(self):
        chance = random.Random(310)
        many = [0, 0]
        for _ in range(40):
            one = some_web(chance, 5, "ab", 0.4)
            other = chance.choice((mixed_up(chance, one), some_web(chance, 5, "ab", 0.4)))
            alike = alike_trees(one, other)
            unlike = [tree for tree in TREES if maps(tree, one) != maps(tree, other)]
            many[bool(alike)] += 1
            if alike:
                self.assertEqual(unlike, [])
                for word in words_in("abAB", 4):
                    self.assertEqual(sum_of(one, word), sum_of(other, word))
                for letters in LETTERS:
                    self.assertIs(bool(alike_sums(one, other, letters)), True)
        self.assertGreater(min(many), 5)
        for one, other in ((rounds_apart(3, 3), ring(6)), (lines(8, (1, 4)), lines(8, (1, 4)).renamed([7, 2, 5, 0, 1, 3, 6, 4]))):
            self.assertEqual([maps(tree, one) for tree in TREES], [maps(tree, other) for tree in TREES])

    def test_trees_that_are_alike_are_like(self):
        trees = [web for web in TREES if web.places == 5]
        for one, other in itertools.combinations(trees[:60], 2):
            self.assertIs(bool(alike_trees(one, other)), one.plain() == other.plain())

    def test_even_and_twisted_webs(self):
        for base in (way(2), way(5), way(7), ring(3), ring(7), full(4), Web.read("4 : 0a1 0a2 0a3 1b2"), Web.read("5 : 0a1 0b2 0a3 0b4")):
            self.assertIs(bool(alike_trees(even_web(base), twisted_web(base))), not base.is_tree())


class Wrong(Case):
    def test_errors(self):
        for function in (alike_trees, shares):
            for value in ANY + ("2 : 0a1",):
                with self.subTest(value=value):
                    self.assert_error(BadWeb("one"), function, value, way(2))
                    self.assert_error(BadWeb("one"), function, value, value)
                    self.assert_error(BadWeb("one"), function, other=None, one=value)
                    self.assert_error(BadWeb("other"), function, way(2), value)
                    self.assert_error(BadWeb("other"), function, other=value, one=way(24))
