"""[12] Which papers on little webs that lie oddly are right, for values of all kinds."""

import itertools
import random

from littlewebs.check_twisted import shows_oddly
from littlewebs.errors import BadLittle, Misfit, TooMany
from littlewebs.foldings import Folded, Told
from littlewebs.papers import Denial, Paper
from littlewebs.twisted import Evenly, Oddly, lies_oddly
from littlewebs.webs import Web
from tests.helpers import Case, full, mixed_up, ring, some_web, way
from tests.test_twisted import BASES, all_lots, is_map, lie_oddly, plain_odd
from tests.values import ANY, Alike

THREE, FIVE, SIX = ring(3), ring(5), ring(6)


class LikeOddly(Oddly):
    """A class below Oddly: what is made by it is not made by calling Oddly."""


class LikeEvenly(Evenly):
    """Likewise."""


class Examples(Case):
    def test_of_the_interface(self):
        self.assert_examples("""
>>> three, row, five, six = Web.read("3 : 0a1 0a2 1a2"), Web.read("4 : 0a1 1a2 2a3"), Web.read("5 : 0a1 0a4 1a2 2a3 3a4"), Web.read("6 : 0a1 0a5 1a2 2a3 3a4 4a5")
>>> [shows_oddly(five, three, Oddly([0, 1, 2, 0, 1], [1, 2, 3])), shows_oddly(five, three, Oddly((0, 1, 2, 0, 1), (0, 1, 2))), shows_oddly(five, three, Evenly()), shows_oddly(six, three, Evenly())]
[True, False, False, True]
>>> apart = Web.read("4 : 0a1 0a2 1a2")
>>> [shows_oddly(apart, three, Oddly((2, 0, 1, 2), (0, 1, 2))), shows_oddly(apart, three, Oddly((2, 0, 1, 2), (0, 1, 2, 3))), shows_oddly(apart, three, Oddly((2, 0, 1, 2), (2, 1, 0)))]
[True, False, False]
""", "twisted", "check_twisted")

    def test_names_and_files(self):
        self.assert_signatures("check_twisted", {"shows_oddly": "little base value"})


class ShowsOddly(Case):
    def test_all_places_and_all_lots(self):
        chance = random.Random(290)
        many = [0, 0]
        for base in (way(2), way(3), THREE, Web.read("3 : 0a1 1b2"), Web.read("3 : 0a1 0a2 1b2")):
            for little in [base, mixed_up(chance, base)] + [some_web(chance, 4, "ab", 0.5) for _ in range(6)]:
                for images in itertools.product(range(base.places), repeat=little.places):
                    for lot in all_lots(little.places):
                        told = is_map(little, base, images) and lie_oddly(little, base, images, lot)
                        many[told] += 1
                        self.assertIs(shows_oddly(little, base, Oddly(images, lot)), told)
        self.assertGreater(min(many), 20)

    def test_what_is_told(self):
        chance = random.Random(291)
        many = {"oddly": 0, "evenly": 0}
        for _ in range(500):
            base = chance.choice([base for base in BASES if base.places <= 6])
            little = chance.choice((some_web(chance, chance.randint(2, 6), "ab", 0.5), some_web(chance, chance.randint(3, 6), "a", 0.5)))
            found = lies_oddly(little, base)
            many[found.word] += 1
            self.assertIs(shows_oddly(little, base, found), True)
            self.assertIs(shows_oddly(little, base, Evenly()), found.word == "evenly")
            self.assertIs(shows_oddly(base, base, Oddly(range(0), ())), False)
            self.assertIs(shows_oddly(base, base, Oddly(list(range(base.places)), tuple(range(base.places)))), True)
        self.assertGreater(min(many.values()), 20)

    def test_bent_places(self):
        right = (0, 1, 2, 0, 1)
        self.assertIs(shows_oddly(FIVE, THREE, Oddly(right, (1, 2, 3))), True)
        wrong = [right[1:], right + (2,), (), right[::-1], (right,), "01201", 0, None, {0: 0}, right + right]
        for at in range(5):
            for put in (-3, -1, 3, 5, 10 ** 399, None, "0", [right[at]], float(right[at]), (right[at] + 1) % 3, (right[at] + 2) % 3, Told()):
                wrong.append(right[:at] + (put,) + right[at + 1:])
            wrong.append(right[:at] + right[at + 1:])
            if right[at] < 2:
                wrong.append(right[:at] + (bool(right[at]),) + right[at + 1:])
        for places in wrong:
            are_places = isinstance(places, tuple) and all(type(place) is int and 0 <= place < 3 for place in places)
            told = are_places and len(places) == 5 and is_map(FIVE, THREE, places) and lie_oddly(FIVE, THREE, places, (1, 2, 3))
            with self.subTest(places=places):
                self.assertIs(shows_oddly(FIVE, THREE, Oddly(places, (1, 2, 3))), told)

    def test_bent_lots(self):
        for lot in (
            (), (1,), (1, 2), (2, 3), (0, 1, 2), (1, 2, 3, 4), (0, 1, 2, 3, 4), (3, 2, 1), (1, 3, 2), (1, 2, 2, 3), (1, 1, 2, 3), (-1, 2, 3),
            (1, 2, 8), (1, 2, 5), (True, 2, 3), (1.0, 2, 3), ("1", 2, 3), (1, 2, None), ((1, 2, 3),), "123", 14, None, {1, 2, 3},
            (1, 2, 3, 5), (1, 2, 3, 4, 5), (1, 2, 3, -1), (-4, 1, 2, 3), [[1], 2, 3], (1, 2, 10 ** 399), range(1, 4),
        ):
            with self.subTest(lot=lot):
                self.assertIs(shows_oddly(FIVE, THREE, Oddly((0, 1, 2, 0, 1), lot)), False)
        self.assertIs(shows_oddly(FIVE, THREE, Oddly([0, 1, 2, 0, 1], [1, 2, 3])), True)

    def test_what_is_no_map(self):
        # The lot would do: but a tie is led to no tie, or to one of another colour.
        self.assertIs(shows_oddly(THREE, THREE, Oddly((0, 1, 2), (0, 1, 2))), True)
        self.assertIs(shows_oddly(Web.read("3 : 0a1 0b2 1a2"), THREE, Oddly((0, 1, 2), (0, 1, 2))), False)
        self.assertIs(shows_oddly(THREE, way(3), Oddly((0, 1, 2), (0, 1, 2))), False)
        self.assertIs(shows_oddly(way(3), way(3), Oddly((0, 1, 2), (0, 1, 2))), True)
        self.assertIs(shows_oddly(way(3), way(3), Oddly((2, 1, 0), (0, 1, 2))), True)
        self.assertIs(shows_oddly(way(3), way(3), Oddly((1, 0, 2), (0, 1, 2))), False)

    def test_places_without_ties(self):
        apart = Web.read("4 : 0a1 0a2 1a2")
        for image in range(-4, 8):
            self.assertIs(shows_oddly(apart, THREE, Oddly((2, 0, 1, image), (0, 1, 2))), 0 <= image < 3)

    def test_many_places_in_one_strand(self):
        # All places are one strand, three of them at each end.
        for lot in all_lots(6):
            told = lie_oddly(way(6), way(2), (0, 1, 0, 1, 0, 1), lot)
            self.assertIs(told, len(lot) % 2 == 0 and len({0, 2, 4} & set(lot)) % 2 == 1)
            self.assertIs(shows_oddly(way(6), way(2), Oddly((0, 1, 0, 1, 0, 1), lot)), told)

    def test_evenly(self):
        chance = random.Random(292)
        for base in (THREE, way(3), ring(4), full(4)):
            for _ in range(15):
                little = some_web(chance, chance.randint(1, 5), "a", 0.5)
                self.assertIs(shows_oddly(little, base, Evenly()), not plain_odd(little, base))
        self.assertIs(shows_oddly(full(6), full(5), Evenly()), True)
        self.assertIs(shows_oddly(full(6), full(6), Evenly()), False)
        self.assertIs(shows_oddly(way(6), full(6), Evenly()), True)


class OtherValues(Case):
    def test_values_of_all_kinds(self):
        for value in ANY + (Oddly, Evenly, [Evenly()], ((0, 1, 2), (0, 1, 2)), {"lot": ()}, THREE, Told(), Folded(THREE), Denial("evenly")):
            with self.subTest(value=value):
                for little in (THREE, way(3)):
                    self.assertIs(shows_oddly(little, THREE, value), False)

    def test_papers_of_other_classes(self):
        for value in (
            Paper("oddly", (0, 1, 2), (0, 1, 2)), LikeOddly((0, 1, 2), (0, 1, 2)), Denial("oddly", (0, 1, 2), (0, 1, 2)),
            Oddly(Oddly((0, 1, 2), (0, 1, 2)), (0, 1, 2)), Oddly([[0, 1, 2]], [[0, 1, 2]]),
        ):
            self.assertIs(shows_oddly(THREE, THREE, value), False)
        for value in (Paper("evenly"), LikeEvenly(), Denial("evenly"), Told()):
            self.assertIs(shows_oddly(way(3), THREE, value), False)
        self.assertIs(shows_oddly(way(3), THREE, Evenly()), True)

    def test_parts_of_all_kinds(self):
        for value in ANY:
            for told in (value, [value], [0, 1, value], [value] * 3):
                with self.subTest(told=told):
                    self.assertIs(shows_oddly(THREE, THREE, Oddly(told, told)), False)
                    self.assertIs(shows_oddly(THREE, THREE, Oddly((0, 1, 2), told)), False)
                    self.assertIs(shows_oddly(THREE, THREE, Oddly(told, (0, 1, 2))), False)
        self.assertIs(shows_oddly(THREE, THREE, Oddly([2, 0, 1], [0, 1, 2])), True)

    def test_what_equals_everything(self):
        for at in range(3):
            told = [0, 1, 2]
            told[at] = Alike()
            self.assertIs(shows_oddly(THREE, THREE, Oddly(told, (0, 1, 2))), False)
            self.assertIs(shows_oddly(THREE, THREE, Oddly((0, 1, 2), told)), False)
        self.assertIs(shows_oddly(THREE, THREE, Oddly(Alike(), Alike())), False)
        self.assertIs(shows_oddly(way(3), THREE, Alike()), False)

    def test_great_values(self):
        deep = 1
        for _ in range(30):
            deep = [deep]
        for value in (deep, [1] * 9000, list(range(9000)), "a" * 20000, [[]] * 9000, 10 ** 399):
            self.assertIs(shows_oddly(THREE, THREE, Oddly(value, (0, 1, 2))), False)
            self.assertIs(shows_oddly(THREE, THREE, Oddly((0, 1, 2), value)), False)


class Wrong(Case):
    def test_errors(self):
        for right in (Evenly(), Oddly((0, 1), (0, 1)), None):
            for value in ANY + (way(8), Web(8, []), full(24), "2 : 0a1"):
                with self.subTest(value=value):
                    self.assert_error(BadLittle("little"), shows_oddly, value, way(2), right)
                    self.assert_error(BadLittle("little"), shows_oddly, value, value, value)
                    self.assert_error(BadLittle("little"), shows_oddly, value=right, base=None, little=value)
                    self.assert_error(BadLittle("base"), shows_oddly, way(2), value, right)
                    self.assert_error(BadLittle("base"), shows_oddly, value=right, base=value, little=way(7))
            self.assert_error(Misfit("joined"), shows_oddly, way(2), Web(2, []), right)
            self.assert_error(Misfit("joined"), shows_oddly, way(7), Web(7, []), right)
            self.assert_error(Misfit("ties"), shows_oddly, way(2), Web(1, []), right)
            self.assert_error(Misfit("ties"), shows_oddly, way(7), Web(1, []), right)
            self.assert_error(TooMany("places", 6), shows_oddly, way(7), way(2), right)
            self.assert_error(TooMany("places", 6), shows_oddly, way(2), way(7), right)
            self.assert_error(TooMany("places", 6), shows_oddly, value=right, base=full(7), little=way(7))
        self.assertIs(shows_oddly(value=Oddly([0, 1], [0, 1]), base=way(2), little=way(2)), True)
        self.assertIs(shows_oddly(way(6), way(6), Oddly(range(0), ())), False)
        self.assertIs(shows_oddly(way(6), way(6), Oddly(list(range(6)), list(range(6)))), True)
