"""[5] Little webs: maps, one-to-one maps, selfmaps and pieces, against plain trial of all places."""

import itertools
import random
import time

from littlewebs.errors import BadLittle, BadWeb, TooMany
from littlewebs.maps import maps, one_to_one, pieces, selfmaps
from littlewebs.webs import Web
from tests.helpers import COLOURS, Case, full, lines, mixed_up, ring, some_web, some_webs, way
from tests.values import ANY

COUNTS = (maps, one_to_one, pieces)

# Little webs of one part and of several, with ties of one colour and of several.
LITTLE = [
    Web.read(text) for text in (
        "1 :", "2 :", "2 : 0a1", "2 : 0b1", "3 :", "3 : 1a2", "3 : 0a2", "3 : 0a1 0a2", "3 : 0a2 1a2", "3 : 0a1 1b2",
        "3 : 0a1 0a2 1a2", "3 : 0a1 0a2 1b2", "3 : 0a1 0b2 1c2", "4 :", "4 : 0a1 2a3", "4 : 0a1 2b3", "4 : 0a3 1a2",
        "4 : 0a1 1a2 2a3", "4 : 0a3 1a2 2a3", "4 : 0a1 0a2 0a3", "4 : 0a1 0a3 1a2 2a3", "4 : 0a2 0a3 1a2 1a3",
        "4 : 0a1 0a2 0a3 1a2 1a3 2a3", "4 : 0a1 0b2 1b3 2a3", "4 : 0a1 0a2 1a2", "4 : 1a2 1a3 2a3", "4 : 0a1 1b2 2a3",
    )
]


def star(many, colour="a"):
    return Web(many, [(0, other, colour) for other in range(1, many)])


def counted(little, web):
    """The maps and the one-to-one maps, by trying all places, and the pieces, as sets of places and ties."""
    many, unlike, found = 0, 0, set()
    for images in itertools.product(range(web.places), repeat=little.places):
        if all(web.tied(images[one], images[other]) == colour for one, other, colour in little.ties):
            many += 1
            if len(set(images)) == little.places:
                unlike += 1
                ties = frozenset(frozenset([images[one], images[other]]) for one, other, _ in little.ties)
                found.add((frozenset(images), ties))
    return [many, unlike, len(found)]


class Examples(Case):
    def test_of_the_interface(self):
        self.assert_examples("""
>>> way, three = Web(4, [(0, 1, "a"), (1, 2, "a"), (2, 3, "a")]), Web(3, [(0, 1, "a"), (0, 2, "a"), (1, 2, "a")])
>>> square = Web(4, [(0, 1, "a"), (1, 2, "a"), (2, 3, "a"), (0, 3, "a")])
>>> [maps(way, three), one_to_one(way, three), maps(way, square), one_to_one(way, square), selfmaps(way), pieces(way, square), pieces(three, three)]
[24, 0, 32, 8, 2, 4, 1]
>>> mixed, apart = Web(3, [(0, 1, "a"), (1, 2, "b")]), Web(4, [(0, 1, "a"), (2, 3, "a")])
>>> [maps(mixed, Web(3, [(0, 1, "a"), (0, 2, "b")])), maps(mixed, square), selfmaps(mixed), maps(apart, three), one_to_one(apart, three), pieces(apart, square), selfmaps(apart)]
[1, 0, 1, 36, 0, 2, 8]
>>> [maps(Web(2, []), square), one_to_one(Web(2, []), square), pieces(Web(2, []), square)]
[16, 12, 6]
>>> great = Web(24, [(one, other, "a") for one in range(24) for other in range(one + 1, 24)])
>>> [maps(way, great), one_to_one(way, great), pieces(way, great)]
[292008, 255024, 127512]
>>> maps(Web(5, [(0, 1, "a"), (1, 2, "a"), (2, 3, "a"), (3, 4, "a")]), great)
raises TooMany('ways', 1000000)
>>> maps(great, way)
raises BadLittle('little')
""", "maps")

    def test_names_and_files(self):
        self.assert_signatures("maps", {
            "maps": "little web", "one_to_one": "little web", "pieces": "little web", "selfmaps": "little",
        })


class PlainTrial(Case):
    def assert_counted(self, little, web):
        with self.subTest(little=str(little), web=str(web)):
            self.assertEqual([count(little, web) for count in COUNTS], counted(little, web))

    def test_little_webs_in_webs(self):
        for little in LITTLE:
            for web in some_webs(20, 8, 5, "ab") + some_webs(21, 5, 5, "a") + [full(5), ring(5), Web(5, []), Web(1, [])]:
                self.assert_counted(little, web)

    def test_any_little_webs(self):
        for little in some_webs(22, 60, 4):
            for web in some_webs(23, 8, 6):
                self.assert_counted(little, web)

    def test_little_webs_of_five_places(self):
        for little in some_webs(24, 20, 5, "ab"):
            for web in some_webs(25, 5, 5, "ab"):
                self.assert_counted(little, web)

    def test_seven_places(self):
        chance = random.Random(26)
        for little in (way(7), star(7), ring(7), way(7, "b"), Web.read("7 : 0a3 1a4 2a5"), Web(7, []), full(7)):
            for web in (full(3), Web(3, [(0, 1, "a"), (1, 2, "b")]), way(3)):
                self.assert_counted(mixed_up(chance, little), web)

    def test_more_places_than_the_web(self):
        for little in LITTLE:
            for web in (Web(1, []), way(2), ring(3)):
                if little.places > web.places:
                    self.assertEqual([one_to_one(little, web), pieces(little, web)], [0, 0])

    def test_further_ties_do_not_matter(self):
        self.assertEqual([count(way(3), full(3)) for count in COUNTS], [12, 6, 3])
        self.assertEqual([count(Web(3, []), full(3)) for count in COUNTS], [27, 6, 1])

    def test_selfmaps(self):
        for little in LITTLE + some_webs(27, 60, 5) + some_webs(28, 10, 6, "a"):
            told = sum(little.renamed(order) == little for order in itertools.permutations(range(little.places)))
            self.assertEqual(selfmaps(little), told)
        told = {"": 5040, "0a1": 240, "0a1 0a2": 48, "0a1 0b2": 24, "0a1 2a3 4a5": 48, "0a1 2b3 4c5": 8}
        for ties, many in told.items():
            self.assertEqual(selfmaps(Web.read(f"7 : {ties}".strip())), many)
        self.assertEqual([selfmaps(full(7)), selfmaps(ring(7)), selfmaps(star(7)), selfmaps(way(7))], [5040, 14, 720, 2])

    def test_like_little_webs_are_counted_alike(self):
        chance = random.Random(29)
        for little in LITTLE:
            web = some_web(chance, 7, "ab")
            for count in COUNTS:
                self.assertEqual(count(mixed_up(chance, little), mixed_up(chance, web)), count(little, web))


class Facts(Case):
    def test_one_place_and_one_tie(self):
        for web in some_webs(30, 30, 24):
            self.assertEqual([count(Web(1, []), web) for count in COUNTS], [web.places] * 3)
            for colour in COLOURS:
                many = sum(own == colour for _, _, own in web.ties)
                self.assertEqual([count(way(2, colour), web) for count in COUNTS], [2 * many, 2 * many, many])

    def test_parts_are_multiplied(self):
        for little in LITTLE:
            for other in LITTLE[:8]:
                if little.places + other.places <= 7:
                    for web in some_webs(31, 4, 6, "ab"):
                        self.assertEqual(maps(little.beside(other), web), maps(little, web) * maps(other, web))

    def test_webs_beside_one_another_are_added(self):
        for little in LITTLE:
            if little.is_joined():
                for one, other in zip(some_webs(32, 6, 6, "ab"), some_webs(33, 6, 6, "ab")):
                    for count in COUNTS:
                        self.assertEqual(count(little, one.beside(other)), count(little, one) + count(little, other))

    def test_pieces_are_one_to_one_maps_divided(self):
        for little in LITTLE:
            for web in some_webs(34, 6, 9, "a"):
                self.assertEqual(pieces(little, web) * selfmaps(little), one_to_one(little, web))

    def test_a_tie_more(self):
        chance = random.Random(35)
        for little in LITTLE:
            web = some_web(chance, 7, "a")
            free = [pair for pair in itertools.combinations(range(7), 2) if web.tied(*pair) is None]
            if free:
                more = Web(7, [*web.ties, (*chance.choice(free), "a")])
                for count in COUNTS:
                    self.assertGreaterEqual(count(little, more), count(little, web))
            if little.ties:
                fewer = Web(little.places, little.ties[1:])
                self.assertGreaterEqual(maps(fewer, web), maps(little, web))

    def test_a_place_and_a_tie(self):
        for little in LITTLE:
            self.assertEqual(maps(little, Web(1, [])), int(not little.ties))
        self.assertEqual([maps(way(7), way(2)), maps(ring(7), way(2)), maps(ring(6), way(2))], [2, 0, 2])
        self.assertEqual(maps(Web.read("3 : 0a1 1b2"), way(2)), 0)


class TooManyWays(Case):
    def assert_not_let(self, little, web):
        for count in COUNTS:
            self.assert_error(TooMany("ways", 1000000), count, little, web)

    def test_just_a_million(self):
        self.assertEqual([count(Web(6, []), Web(10, [])) for count in COUNTS], [1000000, 151200, 210])
        # Each place has five ties: 20 times 5, for three parts.
        little = Web.read("6 : 0a1 2a3 4a5")
        web = lines(20, (1, 2, 10))
        self.assertEqual([maps(little, web), one_to_one(little, web)], [1000000, 536640])

    def test_a_little_more(self):
        # With a place less it is 317,952.
        self.assertEqual(maps(Web.read("4 : 0a1"), full(24)), 24 * 23 * 24 * 24)
        self.assert_not_let(Web.read("5 : 0a1"), full(24))
        self.assert_not_let(Web(6, []), Web(11, []))
        self.assert_not_let(Web(7, []), Web(8, []))
        self.assertEqual(maps(Web(7, []), Web(7, [])), 7 ** 7)
        self.assertEqual(one_to_one(Web(7, []), Web(7, [])), 5040)
        # Steps by 1, 2 and 3 make six ties: 15 * 6 ** 6 is let, 22 * 6 ** 6 is not.
        self.assertEqual(maps(way(7), lines(15, (1, 2, 3))), 699840)
        self.assertEqual(maps(way(7), lines(21, (1, 2, 3))), 979776)
        self.assert_not_let(way(7), lines(22, (1, 2, 3)))
        self.assert_not_let(star(7), lines(22, (1, 2, 3)))
        self.assert_not_let(ring(7), lines(22, (1, 2, 3)))

    def test_the_greatest_number_of_ties_counts(self):
        # A star of eight ties, and places without any: 21 * 8 ** 5 is let.
        web = star(9).beside(Web(12, []))
        self.assertEqual(maps(way(6), web), 2 * 8 ** 3)
        self.assert_not_let(way(7), web)
        self.assert_not_let(way(6), star(10).beside(Web(14, [])))
        # 10 times 9 times 9, or 11 times 10 times 10, for each of two parts.
        little = Web.read("6 : 0a1 0a2 3a4 3a5")
        self.assertEqual(maps(little, star(10)), (81 + 9) ** 2)
        self.assert_not_let(little, star(11).renamed([*range(1, 11), 0]))

    def test_ties_of_all_colours_count(self):
        web = Web(24, [(one, other, COLOURS[(one + other) % 4]) for other in range(24) for one in range(other)])
        self.assert_not_let(way(5), web)
        self.assert_not_let(way(5, "d"), web)
        self.assertEqual(maps(way(4), web), counted_way(web))

    def test_no_ties(self):
        # A part of two places counts 24 times 0 then.
        self.assertEqual([count(Web.read("7 : 0a1"), Web(24, [])) for count in COUNTS], [0, 0, 0])
        self.assert_not_let(Web(5, []), Web(24, []))

    def test_matchings(self):
        web = Web(24, [(2 * at, 2 * at + 1, "a") for at in range(12)])
        little = Web.read("7 : 1a2 3a4 5a6")
        self.assertEqual([count(little, web) for count in COUNTS], [331776, 190080, 3960])
        self.assert_not_let(Web.read("7 : 3a4 5a6"), web)


def tied_order(little):
    """The places, each behind one that is tied to it as far as there is one: so plain trial ends soon."""
    order = []
    for place in range(little.places):
        if place not in order:
            order.append(place)
            for ahead in order:
                near = [other for colour in COLOURS for other in little.neighbours(ahead, colour)]
                order.extend(other for other in sorted(set(near)) if other not in order)
    return order


def tried(little, web, unlike):
    """The maps, or the one-to-one maps, by leading one place behind the other."""
    order = tied_order(little)
    near = {colour: [set(web.neighbours(place, colour)) for place in range(web.places)] for colour in COLOURS}
    ties = [[(at, little.tied(order[at], place)) for at in range(number) if little.tied(order[at], place)] for number, place in enumerate(order)]

    def further(images):
        found = set(range(web.places)).intersection(*[near[colour][images[at]] for at, colour in ties[len(images)]])
        if unlike:
            found -= set(images)
        return len(found) if len(images) + 1 == len(order) else sum(further(images + [image]) for image in found)
    return further([])


GREAT = full(24)

# Near the bound: the little web, the web, and the maps, one-to-one maps and pieces that are known.
NEAR_THE_BOUND = [
    # A star's ends go anywhere around its middle; a way of six ties likewise; a round is coloured by eight colours.
    (star(7), full(8), 8 * 7 ** 6, 40320, 56),
    (way(7), full(8), 8 * 7 ** 6, 40320, 20160),
    (Web.read("7 : 0a1 0a2 0a3 1a4 2a5 3a6"), full(8), 8 * 7 ** 6, 40320, 6720),
    (ring(7), full(8), 7 ** 7 - 7, 40320, 2880),
    (full(7), full(8), 40320, 40320, 8),
    (Web.read("7 : 0a1 0a2 1a2 3a4 3a5 4a5"), full(4), 4 * 24 ** 2, 0, 0),
    # No ties: images of all kinds, and unlike ones.
    (Web(6, []), Web(10, []), 10 ** 6, 151200, 210),
    (Web(6, []), full(10), 10 ** 6, 151200, 210),
    (Web(7, []), Web(7, []), 7 ** 7, 5040, 1),
    (Web(4, []), GREAT, 24 ** 4, 24 * 23 * 22 * 21, 10626),
    (Web.read("4 : 0a1"), GREAT, 24 * 23 * 24 * 24, 24 * 23 * 22 * 21, 63756),
    # In a web of all ties each little web has all places but those that are tied to it.
    (way(4), GREAT, 24 * 23 ** 3, 24 * 23 * 22 * 21, 127512),
    (star(4), GREAT, 24 * 23 ** 3, 24 * 23 * 22 * 21, 42504),
    (full(4), GREAT, 24 * 23 * 22 * 21, 24 * 23 * 22 * 21, 10626),
    (ring(4), GREAT, 23 ** 4 + 23, 24 * 23 * 22 * 21, 31878),
    # Three ties, each of twenty times five; three of twelve ties apart, and a place beside them.
    (Web.read("6 : 0a1 2a3 4a5"), lines(20, (1, 2, 10)), 10 ** 6, 536640, 11180),
    (Web.read("7 : 1a2 3a4 5a6"), Web(24, [(2 * at, 2 * at + 1, "a") for at in range(12)]), 24 ** 4, 24 * 22 * 20 * 18, 3960),
    # Each place has as many ties as any other: so a tree has as many maps as places times ties.
    (way(7), lines(21, (1, 2, 3)), 21 * 6 ** 6, 161490, 80745),
    (star(7), lines(21, (1, 2, 3)), 21 * 6 ** 6, 21 * 720, 21),
    (way(6), lines(24, (1, 2, 3, 4)), 24 * 8 ** 5, 282480, 141240),
    (way(5), lines(24, range(1, 8)), 24 * 14 ** 4, 630000, 315000),
]

# Likewise, held against plain trial.
NEAR_THE_BOUND_TRIED = [
    (ring(7), lines(21, (1, 2, 3))), (ring(6), lines(24, (1, 2, 3, 4))), (ring(5), lines(24, range(1, 8))),
    (Web.read("7 : 0a1 1a2 2a3 2a5 3a4 5a6"), lines(21, (1, 2, 3))), (Web.read("6 : 0a1 0a2 1a2 3a4 3a5"), lines(14, (1, 2, 7))),
    (Web.read("7 : 0a3 0a4 0a5 0a6 1a3 1a4 1a5 2a3 2a4 2a5"), lines(21, (1, 2, 3))),
    (Web.read("5 : 0a1 0b2 1a3 2b4"), Web(24, [(one, other, "ab"[(one * other) % 3 == 1]) for other in range(24) for one in range(max(0, other - 7), other)])),
]


class NearTheBound(Case):
    def test_known_numbers(self):
        chance = random.Random(36)
        for little, web, *told in NEAR_THE_BOUND:
            with self.subTest(little=str(little), web=str(web)):
                self.assertEqual([count(little, web) for count in COUNTS], told)
                self.assertEqual([count(mixed_up(chance, little), mixed_up(chance, web)) for count in COUNTS], told)
        self.assertEqual([selfmaps(Web(7, [])), selfmaps(star(7)), selfmaps(full(7)), selfmaps(ring(7))], [5040, 720, 5040, 14])

    def test_against_plain_trial(self):
        for little, web in NEAR_THE_BOUND_TRIED:
            with self.subTest(little=str(little), web=str(web)):
                self.assertEqual(maps(little, web), tried(little, web, False))
                unlike = tried(little, web, True)
                self.assertEqual([one_to_one(little, web), pieces(little, web)], [unlike, unlike // selfmaps(little)])

    def test_any_webs_near_the_bound(self):
        chance = random.Random(37)
        many = 0
        for _ in range(60):
            little = some_web(chance, chance.randint(4, 7), "a", chance.choice((0.2, 0.4, 0.6)))
            web = some_web(chance, chance.randint(5, 14), "a", chance.choice((0.2, 0.4, 0.7)))
            try:
                found = maps(little, web)
            except TooMany:
                continue
            many += 1
            with self.subTest(little=str(little), web=str(web)):
                if little.is_joined():
                    self.assertEqual(found, tried(little, web, False))
                self.assertEqual(one_to_one(little, web), tried(little, web, True))
        self.assertGreater(many, 20)

    def test_any_little_webs_in_webs_of_many_places(self):
        chance = random.Random(38)
        littles = [little for little in LITTLE if little.places > 1] + some_webs(39, 40, 5, "ab") + [ring(5), way(5), star(5), way(6), ring(6)]
        # Of several parts, some of which could be led into others, but not the other way about.
        littles += [one.beside(other) for one in (way(3), ring(3), way(2), way(2, "b")) for other in (way(3), ring(3), way(4), way(2), Web(2, []))]
        for little in littles:
            web = some_web(chance, chance.randint(12, 15), chance.choice(("a", "a", "ab")), 0.25)
            try:
                told = tried(little, web, True)
                found = one_to_one(little, web)
            except TooMany:
                continue
            with self.subTest(little=str(little), web=str(web)):
                self.assertEqual([found, pieces(little, web)], [told, told // selfmaps(little)])
                self.assertEqual(one_to_one(mixed_up(chance, little), mixed_up(chance, web)), told)

    def test_in_a_short_time(self):
        # One after the other, by trying nearly all images, these took half a minute.
        calls = [(count, little, web) for little, web, *_ in NEAR_THE_BOUND[:13] for count in COUNTS] * 15
        calls += [(count, little, web) for little, web, *_ in NEAR_THE_BOUND[13:] for count in COUNTS]
        calls += [(count, little, web) for little, web in NEAR_THE_BOUND_TRIED for count in COUNTS]
        start = time.perf_counter()
        for count, little, web in calls:
            count(little, web)
        for _ in range(200):
            selfmaps(Web(7, []))
            one_to_one(Web(7, []), Web(7, []))
        self.assertLess(time.perf_counter() - start, 8)


def counted_way(web):
    """The maps of a way of three ties of a: at each tie in the middle the ties at both its ends."""
    many = [sum(web.tied(place, other) == "a" for other in range(web.places)) for place in range(web.places)]
    return sum(2 * many[one] * many[other] for one, other, colour in web.ties if colour == "a")


class Wrong(Case):
    def test_no_little_web(self):
        for value in ANY + (way(8), Web(8, []), full(24), "2 : 0a1"):
            with self.subTest(value=value):
                for count in COUNTS:
                    self.assert_error(BadLittle("little"), count, value, way(2))
                    self.assert_error(BadLittle("little"), count, value, value)
                    self.assert_error(BadLittle("little"), count, value, None)
                    self.assert_error(BadLittle("little"), count, web=full(24), little=value)
                self.assert_error(BadLittle("little"), selfmaps, value)
                self.assert_error(BadLittle("little"), selfmaps, little=value)

    def test_no_web(self):
        for value in ANY + ("2 : 0a1",):
            with self.subTest(value=value):
                for count in COUNTS:
                    self.assert_error(BadWeb("web"), count, way(2), value)
                    self.assert_error(BadWeb("web"), count, web=value, little=Web(7, []))

    def test_seven_places_are_let_and_eight_are_not(self):
        for count in COUNTS:
            self.assertEqual(count(way(7), way(2)), 2 if count is maps else 0)
            self.assert_error(BadLittle("little"), count, way(8), way(2))
            self.assert_error(BadLittle("little"), count, Web(8, []), Web(24, []))
        self.assertEqual(selfmaps(way(7)), 2)
        self.assert_error(BadLittle("little"), selfmaps, way(8))

    def test_by_name(self):
        self.assertEqual(maps(web=full(3), little=way(2)), 6)
        self.assertEqual(one_to_one(web=full(3), little=way(3)), 6)
        self.assertEqual(pieces(web=full(3), little=way(3)), 3)
        self.assertEqual(selfmaps(little=way(3)), 2)

    def test_nothing_changes(self):
        little, web = Web.read("4 : 0a1 1b2"), full(5)
        for count in COUNTS:
            self.assertEqual(count(little, web), count(little, web))
        self.assertEqual([str(little), web], ["4 : 0a1 1b2", full(5)])
