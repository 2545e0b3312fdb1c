"""[12] Twisted webs: against sets written out; little webs that lie oddly: against all maps and all lots."""

import itertools
import random

from littlewebs.errors import BadLittle, Misfit, TooMany
from littlewebs.maps import maps
from littlewebs.papers import Denial, Paper
from littlewebs.twisted import Evenly, Oddly, even_web, lies_oddly, over, twisted_web
from littlewebs.webs import Web
from tests.helpers import COLOURS, Case, full, mixed_up, ring, some_web, some_webs, way
from tests.values import ANY

WEBS = (even_web, twisted_web, over)

# Bases of two to seven places, trees and others.
BASES = [web for web in some_webs(280, 120, 7, "ab") if web.is_joined() and web.ties] + [
    Web.read(text) for text in (
        "2 : 0a1", "2 : 0d1", "3 : 0a1 0b2", "4 : 0a1 0a2 0a3", "5 : 0a1 0a2 0a3 0a4", "4 : 0a1 0a2 0a3 1a2", "4 : 0a3 1a3 2a3",
        "4 : 0a1 0a2 0a3 1a2 1a3 2a3", "5 : 0a1 0a4 1a2 2a3 3a4", "7 : 0a1 0a6 1a2 2a3 3a4 4a5 5a6", "7 : 0a1 1a2 2a3 3a4 4a5 5a6",
        "6 : 0a1 0a2 0a3 1b4 2b4 3a5", "6 : 0b1 0a2 1a2 2c3 3a4 3a5 4a5",
    )
]


def ties_at(base, place):
    """The ties at the place, that to the least neighbour first."""
    return sorted((tie for tie in base.ties if place in tie[:2]), key=lambda tie: sum(tie[:2]) - place)


def sets_over(base, odd_at):
    """All places of the web over the base: the place below, and the set of ties; sets are odd there alone."""
    found = []
    for place in range(base.places):
        for signs in itertools.product((0, 1), repeat=len(ties_at(base, place))):
            if sum(signs) % 2 == (place == odd_at):
                found.append((place, {tie for tie, sign in zip(ties_at(base, place), signs) if sign}))
    return found


def web_of_sets(base, odd_at):
    found, ties = sets_over(base, odd_at), []
    for (at, (place, own)), (to, (other, beside)) in itertools.combinations(enumerate(found), 2):
        for tie in base.ties:
            if set(tie[:2]) == {place, other} and (tie in own) == (tie in beside):
                ties.append((at, to, tie[2]))
    return Web(len(found), ties)


def many_over(base):
    return len(sets_over(base, None))


def strands(little, base, images):
    """The strands of all ties of the base, grown from each place that is led to an end."""
    found = []
    for one, other, _ in base.ties:
        left = {place for place, image in enumerate(images) if image in (one, other)}
        while left:
            strand = [left.pop()]
            for place in strand:
                near = [at for at in left if little.tied(place, at) is not None and images[at] != images[place]]
                strand.extend(near)
                left -= set(near)
            found.append(set(strand))
    return found


def is_map(little, base, images):
    return all(base.tied(images[one], images[other]) == colour for one, other, colour in little.ties)


def lie_oddly(little, base, images, lot):
    """Whether a map and a lot lie oddly, by the words of the document."""
    if any(len(strand & set(lot)) % 2 for strand in strands(little, base, images)):
        return False
    return sum(images[place] == 0 for place in lot) % 2 == 1


def all_maps(little, base):
    """All maps, place by place."""
    found = [()]
    for place in range(little.places):
        found = [
            images + (image,) for images in found for image in range(base.places)
            if all(base.tied(images[at], image) == little.tied(at, place) for at in range(place) if little.tied(at, place))
        ]
    return found


def all_lots(places):
    return [lot for many in range(places + 1) for lot in itertools.combinations(range(places), many)]


def plain_odd(little, base):
    """Whether some map and some lot lie oddly, by trial of all."""
    lots = [set(lot) for lot in all_lots(little.places)]
    for images in all_maps(little, base):
        parted = strands(little, base, images)
        first = {place for place, image in enumerate(images) if image == 0}
        if any(len(lot & first) % 2 and not any(len(lot & strand) % 2 for strand in parted) for lot in lots):
            return True
    return False


class Examples(Case):
    def test_of_the_interface(self):
        self.assert_examples("""
>>> three, ab = Web.read("3 : 0a1 0a2 1a2"), Web.read("3 : 0a1 1b2")
>>> [str(even_web(three)), str(twisted_web(three)), over(three)]
['6 : 0a2 0a4 1a3 1a5 2a4 3a5', '6 : 0a2 0a5 1a3 1a4 2a4 3a5', (0, 0, 1, 1, 2, 2)]
>>> [str(even_web(ab)), str(twisted_web(ab)), over(ab)]
['4 : 0a1 1b3', '4 : 0a2 1b3', (0, 1, 1, 2)]
>>> row, five, six = Web.read("4 : 0a1 1a2 2a3"), Web.read("5 : 0a1 0a4 1a2 2a3 3a4"), Web.read("6 : 0a1 0a5 1a2 2a3 3a4 4a5")
>>> [[maps(little, even_web(three)), maps(little, twisted_web(three))] for little in [three, row, five, six, ab]]
[[12, 0], [48, 48], [60, 0], [132, 132], [0, 0]]
>>> [lies_oddly(little, three).word for little in [three, row, five, six, ab]]
['oddly', 'evenly', 'oddly', 'evenly', 'evenly']
>>> [lies_oddly(three, three).lot, sorted(lies_oddly(three, three).places), lies_oddly(ab, ab) == Oddly((0, 1, 2), (0, 1, 2)), bool(lies_oddly(three, six))]
[(0, 1, 2), [0, 1, 2], True, False]
>>> twisted_web(Web(1, []))
raises Misfit('ties')
>>> even_web(Web(2, []))
raises Misfit('joined')
>>> over(Web(5, [(one, other, "a") for other in range(5) for one in range(other)]))
raises TooMany('places', 24)
""", "maps", "twisted")

    def test_names_and_files(self):
        self.assert_signatures("twisted", {
            "even_web": "base", "twisted_web": "base", "over": "base", "Oddly": "places lot", "Evenly": "", "lies_oddly": "little base",
        })


class Papers(Case):
    def test_classes(self):
        self.assertEqual([Oddly.__bases__, Evenly.__bases__], [(Paper,), (Denial,)])
        self.assertEqual([Evenly().word, bool(Evenly()), Evenly().parts], ["evenly", False, ()])

    def test_any_parts(self):
        for value in ANY:
            oddly = Oddly(value, 1)
            with self.subTest(value=value):
                self.assertEqual([oddly.word, bool(oddly), len(oddly.parts), oddly.lot], ["oddly", True, 2, 1])
                if not isinstance(value, (list, tuple)):
                    for kept in (oddly.places, oddly.parts[0], Oddly(1, value).lot, Oddly(1, value).parts[1]):
                        self.assertIs(kept, value)
        oddly = Oddly(lot=[1, [2]], places=[[3]])
        self.assertEqual([oddly.places, oddly.lot, oddly.parts], [((3,),), (1, (2,)), (((3,),), (1, (2,)))])

    def test_equality(self):
        self.assertIs(Oddly([0, 1], [0]) == Oddly((0, 1), (0,)), True)
        self.assertIs(Oddly(0, 1) == Oddly(1, 0), False)
        self.assertIs(Evenly() == Evenly(), True)
        self.assertIs(Evenly() == Denial("evenly"), False)
        self.assertIs(Oddly(0, 1) == Evenly(), False)


class Webs(Case):
    def test_against_sets_written_out(self):
        many = 0
        for base in BASES:
            if many_over(base) <= 24:
                many += 1
                with self.subTest(base=str(base)):
                    self.assertEqual(even_web(base), web_of_sets(base, None))
                    self.assertEqual(twisted_web(base), web_of_sets(base, 0))
                    self.assertEqual(over(base), tuple(place for place, _ in sets_over(base, None)))
                    self.assertEqual(over(base), tuple(place for place, _ in sets_over(base, 0)))
        self.assertGreater(many, 30)

    def test_more_than_24_places(self):
        many = {}
        chance = random.Random(281)
        for _ in range(300):
            base = some_web(chance, chance.randint(4, 7), "ab", 0.5)
            if base.is_joined():
                places = many_over(base)
                many[places] = base
        self.assertIn(24, many)
        for places, base in many.items():
            if places > 24:
                for function in WEBS:
                    self.assert_error(TooMany("places", 24), function, base)
            else:
                self.assertEqual([even_web(base).places, twisted_web(base).places, len(over(base))], [places] * 3)
        self.assertGreater(max(many), 24)
        for base in (full(7), full(6), full(5)):
            for function in WEBS:
                self.assert_error(TooMany("places", 24), function, base)

    def test_odd_sets_at_another_place(self):
        for base in BASES:
            if many_over(base) <= 7:
                for place in range(base.places):
                    self.assertEqual(web_of_sets(base, place).plain(), twisted_web(base).plain())

    def test_places_are_as_many_as_told(self):
        for base in BASES:
            if many_over(base) <= 24:
                for place in range(base.places):
                    ties = sum(base.degree(place, colour) for colour in COLOURS)
                    self.assertEqual(over(base).count(place), 2 ** (ties - 1))

    def test_by_name(self):
        self.assertEqual([str(even_web(base=way(2))), str(twisted_web(base=way(2))), over(base=way(2))], ["2 : 0a1", "2 :", (0, 1)])

    def test_kinds_of_answers(self):
        self.assertEqual([type(even_web(way(3))), type(twisted_web(way(3))), type(over(way(3)))], [Web, Web, tuple])


class LiesOddly(Case):
    def assert_told(self, little, base, told):
        found = lies_oddly(little, base)
        with self.subTest(little=str(little), base=str(base)):
            self.assertEqual(found.word, "oddly" if told else "evenly")
            self.assertEqual(lies_oddly(little, base), found)
            if told:
                self.assertEqual([type(found), type(found.places), type(found.lot)], [Oddly, tuple, tuple])
                self.assertEqual([len(found.places), list(found.lot)], [little.places, sorted(set(found.lot))])
                self.assertIs(is_map(little, base, found.places), True)
                self.assertIs(lie_oddly(little, base, found.places, found.lot), True)
                self.assertEqual(set(found.places), set(range(base.places)))
            else:
                self.assertEqual(found, Evenly())
        return bool(told)

    def test_against_all_maps_and_all_lots(self):
        chance = random.Random(282)
        many = [0, 0]
        bases = [base for base in BASES if base.places < 5]
        for _ in range(600):
            base = chance.choice(bases)
            little = some_web(chance, chance.randint(2, 5), chance.choice(("a", "a", "ab")), chance.choice((0.3, 0.5, 0.7)))
            many[self.assert_told(little, base, plain_odd(little, base))] += 1
        self.assertGreater(min(many), 20)

    def test_six_places(self):
        chance = random.Random(283)
        many = [0, 0]
        bases = [way(2), way(3), ring(3), ring(4), full(4), way(4), Web.read("4 : 0a1 0a2 0a3"), Web.read("4 : 0a1 0a2 1a2 2a3")]
        for base in bases:
            for _ in range(6):
                little = some_web(chance, 6, "a", chance.choice((0.2, 0.4, 0.6)))
                many[self.assert_told(little, base, plain_odd(little, base))] += 1
        self.assertGreater(min(many), 5)

    def test_more_maps_into_the_even_web(self):
        chance = random.Random(284)
        many = [0, 0]
        bases = [base for base in BASES if many_over(base) <= 16 and base.places <= 6]
        for _ in range(800):
            base = chance.choice(bases)
            little = some_web(chance, chance.randint(2, 6), chance.choice(("a", "a", "ab")), chance.choice((0.3, 0.5)))
            if little.is_joined():
                even, twisted = maps(little, even_web(base)), maps(little, twisted_web(base))
                self.assertGreaterEqual(even, twisted)
                many[self.assert_told(little, base, even > twisted)] += 1
        self.assertGreater(min(many), 8)

    def test_the_base_itself(self):
        chance = random.Random(285)
        for base in BASES + [full(5), full(6), ring(6), way(6)]:
            if base.places <= 6:
                self.assert_told(base, base, True)
                self.assert_told(mixed_up(chance, base), base, True)
                self.assertIs(lie_oddly(base, base, range(base.places), range(base.places)), True)

    def test_little_webs_of_as_many_places_or_fewer(self):
        for base in [full(5), full(6), ring(5), ring(6), way(6), Web.read("6 : 0a1 0a2 1a2 2a3 3a4 3a5 4a5")]:
            for little in some_webs(286, 40, base.places, "a") + [way(6), ring(6), way(5)]:
                if little.places <= base.places:
                    told = little.places == base.places and base.plain() == little.plain()
                    self.assert_told(little, base, told)

    def test_great_bases(self):
        chance = random.Random(287)
        for base in (full(5), Web(5, full(5).ties[1:]), Web(5, full(5).ties[2:])):
            for _ in range(5):
                little = Web(6, chance.sample(full(6).ties, chance.randint(9, 15)))
                self.assert_told(little, base, plain_odd(little, base))
            for more in ("0a5", "4a5"):
                little = Web.read(f"6 : {' '.join(sorted(str(base).split()[2:] + [more], key=lambda tie: (tie[0], tie[2])))}")
                self.assert_told(little, base, plain_odd(little, base))

    def test_several_parts(self):
        three, two = ring(3), way(2)
        for little, base, told in (
            (three.beside(three), three, True), (three.beside(way(3)), three, True), (way(3).beside(three), three, True),
            (three.beside(way(2, "b")), three, False), (Web(1, []).beside(ring(5)), three, True), (Web(3, []).beside(two), two, True),
            (two.beside(way(2, "c")), two, False), (ring(3).beside(Web(1, [])), ring(3), True), (ring(4).beside(two), three, False),
            (Web(6, []), two, False), (two.beside(two).beside(two), two, True), (way(2, "b").beside(ring(4)), ring(4), False),
        ):
            self.assertEqual(plain_odd(little, base), told)
            self.assert_told(little, base, told)

    def test_trees(self):
        for little in some_webs(288, 150, 6, "ab"):
            if little.is_tree():
                for base in BASES:
                    if base.places <= 6 and not base.is_tree():
                        self.assert_told(little, base, False)
        for base in BASES:
            if base.places <= 6 and base.is_tree():
                self.assert_told(base, base, True)

    def test_by_name(self):
        self.assertEqual(lies_oddly(base=ring(3), little=ring(3)).word, "oddly")


class Wrong(Case):
    def test_no_little_web(self):
        for value in ANY + (way(8), Web(8, []), full(24), "2 : 0a1"):
            with self.subTest(value=value):
                for function in WEBS:
                    self.assert_error(BadLittle("base"), function, value)
                    self.assert_error(BadLittle("base"), function, base=value)
                self.assert_error(BadLittle("little"), lies_oddly, value, way(2))
                self.assert_error(BadLittle("little"), lies_oddly, value, value)
                self.assert_error(BadLittle("little"), lies_oddly, base=None, little=value)
                self.assert_error(BadLittle("little"), lies_oddly, value, Web(7, []))
                self.assert_error(BadLittle("base"), lies_oddly, way(2), value)
                self.assert_error(BadLittle("base"), lies_oddly, base=value, little=way(7))

    def test_what_is_no_base(self):
        for base in (Web(2, []), Web(7, []), Web.read("3 : 0a1"), Web.read("7 : 0a1 0a2 0a3 0a4 0a5")):
            for function in WEBS:
                self.assert_error(Misfit("joined"), function, base)
            self.assert_error(Misfit("joined"), lies_oddly, way(2), base)
            self.assert_error(Misfit("joined"), lies_oddly, Web(7, []), base)
        for function in WEBS:
            self.assert_error(Misfit("ties"), function, Web(1, []))
        self.assert_error(Misfit("ties"), lies_oddly, way(2), Web(1, []))
        self.assert_error(Misfit("ties"), lies_oddly, way(7), Web(1, []))

    def test_six_places_are_let_and_seven_are_not(self):
        for little, base in ((way(7), way(2)), (way(2), way(7)), (way(7), full(7)), (Web(1, []), full(7)), (Web(7, []), way(2))):
            self.assert_error(TooMany("places", 6), lies_oddly, little, base)
        self.assertEqual(lies_oddly(way(6), way(6)).word, "oddly")
        self.assert_error(BadLittle("little"), lies_oddly, way(8), way(7))
        self.assert_error(BadLittle("base"), lies_oddly, way(7), way(8))
