"""[9] Polynomials: against ties and rounds that are chosen, against counted closed walks, and there and back."""

import itertools
import random
from fractions import Fraction

from littlewebs.errors import BadNumber, BadWeb, Misfit
from littlewebs.led import Unlike, alike_sums
from littlewebs.papers import Denial, Paper
from littlewebs.polynomials import (
    Both, Length, Rounds, alike_both, alike_rounds, opposite_from, polynomial_from, polynomial_of, traces_from,
)
from littlewebs.webs import Web
from littlewebs.words import sum_of, trace_of
from tests.helpers import Case, full, lines, mixed_up, ring, some_web, some_webs, way
from tests.values import ANY

NO_COLOURS = tuple(value for value in ANY if value != "a" or not isinstance(value, str)) + ("A", "e", "ab", "aa", ["a"], ("a",))

# Pairs of webs with one polynomial and unlike ones of their opposites: the last one tells the first word of unlike sums.
UNLIKE_OPPOSITES = [
    ("5 : 0a1 0a2 0a3 0a4", "5 : 0a1 0a3 1a2 2a3", 2),
    ("7 : 0a2 0a3 0a6 1a3 2a6 3a4 3a6 5a6", "7 : 0a1 0a6 1a2 1a6 2a6 3a6 4a5 4a6", 3),
    ("8 : 0a1 0a5 0a7 1a4 2a5 2a6 3a5 3a6 5a6", "8 : 0a7 1a2 1a4 1a6 2a4 2a7 3a7 4a6 5a6", 4),
    ("9 : 0a1 1a3 1a7 2a4 2a7 4a5 4a7 5a8 6a7 6a8", "9 : 0a1 0a6 1a7 2a5 3a8 4a5 4a6 5a6 5a7 7a8", 5),
    ("10 : 0a4 1a2 1a7 2a4 3a6 4a6 5a8 5a9 6a8", "10 : 0a1 1a6 1a7 2a8 3a4 3a5 4a6 5a9 6a8", 7),
]

# Pairs of webs with both polynomials alike that are not like.
ALIKE_BOTH = [
    ("7 : 0a4 0a5 0a6 1a4 2a5 3a6", "7 : 1a5 1a6 2a4 2a6 3a4 3a5"),
    ("7 : 0a3 0a4 1a2 1a4 2a3 2a6 3a5 3a6 5a6", "7 : 0a2 0a3 0a5 1a4 1a5 1a6 2a4 2a6 4a6"),
]


def closed_walks(web, colour, many):
    """The numbers of closed walks of the first lengths, by plain products of tables."""
    places = range(web.places)
    table = [[int(web.tied(row, column) == colour) for column in places] for row in places]
    power, found = [[int(row == column) for column in places] for row in places], []
    for _ in range(many):
        found.append(sum(power[place][place] for place in places))
        power = [[sum(row[k] * table[k][column] for k in places) for column in places] for row in power]
    return found


def by_choosing(web, colour):
    """The polynomial: ties and rounds chosen in all ways, no two with a place in common."""
    numbers = [0] * (web.places + 1)

    def rounds_through(first, free):
        """All sets of free places, each as often as they are a round with the first place."""
        def further(row):
            if len(row) > 2 and web.tied(row[-1], first) == colour and row[1] < row[-1]:
                yield frozenset(row)
            for place in free:
                if place not in row and web.tied(row[-1], place) == colour:
                    yield from further(row + [place])
        yield from further([first])

    def choose(free, used, worth):
        if not free:
            numbers[web.places - used] += worth
            return
        first, rest = free[0], free[1:]
        choose(rest, used, worth)
        for other in rest:
            if web.tied(first, other) == colour:
                choose([place for place in rest if place != other], used + 2, -worth)
        for taken in rounds_through(first, rest):
            choose([place for place in rest if place not in taken], used + len(taken), -2 * worth)

    choose(list(range(web.places)), 0, 1)
    return tuple(numbers)


def opposite(web, colour):
    """The web with ties of the colour wherever this one has none of it."""
    pairs = itertools.combinations(range(web.places), 2)
    return Web(web.places, [(*pair, colour) for pair in pairs if web.tied(*pair) != colour])


def multiplied(roots):
    """The polynomial of x less each root, multiplied."""
    numbers = [1]
    for root in roots:
        numbers = [ahead - root * here for ahead, here in zip([0] + numbers, numbers + [0])]
    return tuple(numbers)


class Examples(Case):
    def test_of_the_interface(self):
        self.assert_examples("""
>>> path, star, square = Web.read("4 : 0a1 1a2 2a3"), Web.read("5 : 0a1 0a2 0a3 0a4"), Web.read("5 : 0a1 0a3 1a2 2a3")
>>> [polynomial_of(path, "a"), polynomial_of(star, "a"), polynomial_of(square, "a"), polynomial_of(path, "b")]
[(1, 0, -3, 0, 1), (0, 0, 0, -4, 0, 1), (0, 0, 0, -4, 0, 1), (0, 0, 0, 0, 1)]
>>> [traces_from([1, 0, -3, 0, 1], 7), polynomial_from([4, 0, 6, 0, 14]), opposite_from([1, 0, -3, 0, 1], [4, 6, 10, 16])]
[(4, 0, 6, 0, 14, 0, 36), (1, 0, -3, 0, 1), (1, 0, -3, 0, 1)]
>>> triangles, ring = Web.read("6 : 0a1 0a2 1a2 3a4 3a5 4a5"), Web.read("6 : 0a1 0a5 1a2 2a3 3a4 4a5")
>>> [alike_rounds(star, square, "a").polynomial, alike_rounds(path, star, "a").number, alike_rounds(triangles, ring, "a").parts]
[(0, 0, 0, -4, 0, 1), 0, (3,)]
>>> [alike_both(star, square, "a").parts, alike_both(path, Web.read("4 : 0a2 0a3 1a3"), "a").parts, bool(alike_both(path, star, "b"))]
[('aa',), ((1, 0, -3, 0, 1), (1, 0, -3, 0, 1)), False]
>>> polynomial_from([2, 0, 1])
raises Misfit('traces')
""", "polynomials")

    def test_names_and_files(self):
        self.assert_signatures("polynomials", {
            "polynomial_of": "web colour", "traces_from": "polynomial many", "polynomial_from": "traces",
            "opposite_from": "polynomial sums", "Rounds": "polynomial", "Both": "polynomial opposite", "Length": "number",
            "alike_rounds": "one other colour", "alike_both": "one other colour",
        })


class Papers(Case):
    def test_classes(self):
        self.assertEqual([Rounds.__bases__, Both.__bases__, Length.__bases__], [(Paper,), (Paper,), (Denial,)])

    def test_any_parts(self):
        for value in ANY:
            rounds, both, length = Rounds(value), Both(value, 1), Length(value)
            with self.subTest(value=value):
                self.assertEqual([rounds.word, both.word, length.word], ["rounds", "both", "length"])
                self.assertEqual([bool(rounds), bool(both), bool(length)], [True, True, False])
                self.assertEqual([len(rounds.parts), len(both.parts), len(length.parts)], [1, 2, 1])
                if not isinstance(value, (list, tuple)):
                    for kept in (rounds.polynomial, rounds.parts[0], both.polynomial, Both(1, value).opposite, length.number):
                        self.assertIs(kept, value)

    def test_lists_become_tuples(self):
        both = Both(opposite=[1, [2]], polynomial=[[3]])
        self.assertEqual([both.polynomial, both.opposite, both.parts], [((3,),), (1, (2,)), (((3,),), (1, (2,)))])
        self.assertEqual([Rounds(polynomial=[1]).polynomial, Length(number=[1]).number], [(1,), (1,)])

    def test_equality(self):
        self.assertIs(Rounds([0, 1]) == Rounds((0, 1)), True)
        self.assertIs(Both([0, 1], [0, 1]) == Both((0, 1), (0, 1)), True)
        self.assertIs(Both(0, 1) == Both(1, 0), False)
        self.assertIs(Length(1) == Length(2), False)
        self.assertIs(Length(1) == Rounds(1), False)
        self.assertIs(Length(1) == Denial("length", 1), False)


class PolynomialOf(Case):
    def test_against_choosing_ties_and_rounds(self):
        for web in some_webs(210, 60, 6, "ab") + some_webs(211, 20, 7, "a") + [full(6), ring(7), way(7), Web(6, []), full(7)]:
            for colour in "ab":
                with self.subTest(web=str(web), colour=colour):
                    self.assertEqual(polynomial_of(web, colour), by_choosing(web, colour))

    def test_against_counting_closed_walks(self):
        webs = [some_web(random.Random(places), places, "ab", 0.5) for places in range(1, 25)]
        for web in webs + [full(24), ring(24), way(24), Web(24, []), lines(24, (1, 2, 5)), Web(1, []), way(2)]:
            with self.subTest(web=str(web)):
                numbers, walks = polynomial_of(web, "a"), closed_walks(web, "a", web.places + 1)
                self.assertEqual([len(numbers), numbers[-1]], [web.places + 1, 1])
                for k in range(1, web.places + 1):
                    told = k * numbers[web.places - k] + sum(walks[k - at] * numbers[web.places - at] for at in range(k))
                    self.assertEqual(told, 0)

    def test_as_known(self):
        self.assertEqual(polynomial_of(full(24), "a"), multiplied([23] + [-1] * 23))
        self.assertEqual(polynomial_of(Web(24, []), "c"), (0,) * 24 + (1,))
        self.assertEqual(polynomial_of(Web(1, []), "a"), (0, 1))
        self.assertEqual(polynomial_of(ring(4), "a"), multiplied([2, -2, 0, 0]))

    def test_ties_of_other_colours_change_nothing(self):
        chance = random.Random(212)
        for web in some_webs(213, 30, 10, "abcd"):
            alone = Web(web.places, [tie for tie in web.ties if tie[2] == "a"])
            other = Web(web.places, [(*tie[:2], tie[2] if tie[2] == "a" else chance.choice("bcd")) for tie in web.ties])
            self.assertEqual(polynomial_of(web, "a"), polynomial_of(alone, "a"))
            self.assertEqual(polynomial_of(web, "a"), polynomial_of(other, "a"))

    def test_integers_in_a_tuple(self):
        for web in some_webs(214, 10, 12):
            numbers = polynomial_of(colour="a", web=web)
            self.assertIs(type(numbers), tuple)
            self.assertEqual({type(number) for number in numbers}, {int})

    def test_webs_beside_one_another_are_multiplied(self):
        for one, other in zip(some_webs(215, 20, 8, "a"), some_webs(216, 20, 8, "a")):
            ones, others = polynomial_of(one, "a"), polynomial_of(other, "a")
            told = [0] * (len(ones) + len(others) - 1)
            for at, number in enumerate(ones):
                for to, beside in enumerate(others):
                    told[at + to] += number * beside
            self.assertEqual(polynomial_of(one.beside(other), "a"), tuple(told))

    def test_errors(self):
        for value in ANY + ("2 : 0a1",):
            with self.subTest(value=value):
                self.assert_error(BadWeb("web"), polynomial_of, value, "a")
                self.assert_error(BadWeb("web"), polynomial_of, colour=value, web=value)
        for value in NO_COLOURS:
            with self.subTest(value=value):
                self.assert_error(BadNumber("colour"), polynomial_of, way(2), value)
                self.assert_error(BadNumber("colour"), polynomial_of, colour=value, web=way(24))


class ThereAndBack(Case):
    def test_products_of_x_less_integers(self):
        chance = random.Random(217)
        for places in range(1, 25):
            roots = [chance.randint(-9, 9) for _ in range(places)]
            numbers = multiplied(roots)
            walks = tuple(sum(root ** k for root in roots) for k in range(100))
            for many in (0, 1, 2, places, places + 1, 99, 100):
                self.assertEqual(traces_from(numbers, many), walks[:many])
            self.assertEqual(polynomial_from(walks[:places + 1]), numbers)
            self.assertEqual(polynomial_from(traces=list(walks[:places + 1])), numbers)

    def test_any_integers(self):
        chance = random.Random(218)
        for places in range(1, 25):
            for most in (1, 10, 10 ** 30):
                numbers = tuple(chance.randint(-most, most) for _ in range(places)) + (1,)
                walks = traces_from(numbers, places + 1)
                self.assertEqual(polynomial_from(walks), numbers)
                self.assertEqual(traces_from(list(numbers), 100)[:places + 1], walks)

    def test_sums_behind_the_places(self):
        chance = random.Random(219)
        for places in (1, 2, 5, 24):
            numbers = [chance.randint(-3, 3) for _ in range(places)] + [1]
            walks = traces_from(numbers, 100)
            self.assertEqual([len(walks), walks[0]], [100, places])
            for k in range(places, 100):
                self.assertEqual(sum(number * walks[k - places + at] for at, number in enumerate(numbers)), 0)

    def test_no_numbers_and_a_hundred(self):
        self.assertEqual(traces_from([5, 1], 0), ())
        self.assertEqual(traces_from([5, 1], 1), (1,))
        self.assertEqual(traces_from(many=100, polynomial=[-2, 1]), tuple(2 ** k for k in range(100)))

    def test_great_numbers(self):
        great = 10 ** 399
        self.assertEqual(traces_from([-great, 1], 100), tuple(great ** k for k in range(100)))
        self.assertEqual(polynomial_from([1, great]), (-great, 1))

    def test_numbers_that_would_not_be_integers(self):
        chance = random.Random(220)
        many = [0, 0]
        for _ in range(300):
            places = chance.randint(1, 5)
            walks = [places] + [chance.randint(-6, 6) for _ in range(places)]
            falling = [Fraction(1)]
            for k in range(1, places + 1):
                falling.append(-sum(walks[k - at] * falling[at] for at in range(k)) / k)
            right = all(number.denominator == 1 for number in falling)
            many[right] += 1
            if right:
                self.assertEqual(polynomial_from(walks), tuple(falling[::-1]))
            else:
                self.assert_error(Misfit("traces"), polynomial_from, walks)
        self.assertGreater(min(many), 50)
        self.assert_error(Misfit("traces"), polynomial_from, (2, 0, 1))
        self.assertEqual(polynomial_from((2, 0, 2)), (-1, 0, 1))

    def test_webs(self):
        for web in some_webs(221, 20, 12, "ab") + [full(24), ring(24)]:
            walks = closed_walks(web, "a", web.places + 4)
            self.assertEqual(traces_from(polynomial_of(web, "a"), web.places + 4), tuple(walks))
            self.assertEqual(polynomial_from(walks[:web.places + 1]), polynomial_of(web, "a"))

    def test_what_is_no_polynomial(self):
        wrong = ANY + (
            [1], (), [0], [1, 0], [0, 2], [0, -1], [True, 1], [0, True], [1.0, 1], [0, 1.0], ["0", 1], [None, 1], "01", [[0, 1]],
            [0] * 25 + [1], [(0,), 1], {0: 0, 1: 1}, range(2),
        )
        for value in wrong:
            with self.subTest(value=value):
                self.assert_error(BadNumber("polynomial"), traces_from, value, 1)
                self.assert_error(BadNumber("polynomial"), traces_from, many=None, polynomial=value)
                self.assert_error(BadNumber("polynomial"), opposite_from, value, None)
                self.assert_error(BadNumber("polynomial"), opposite_from, sums=[0], polynomial=value)
        self.assertEqual(len(traces_from([0] * 24 + [1], 30)), 30)

    def test_what_is_no_number_of_them(self):
        for value in ANY + (101, -1, 100.0, "5", [5], True):
            if type(value) is not int or not 0 <= value <= 100:
                with self.subTest(value=value):
                    self.assert_error(BadNumber("many"), traces_from, [0, 1], value)
                    self.assert_error(BadNumber("many"), traces_from, many=value, polynomial=(3, 0, 1))

    def test_what_are_no_numbers_of_closed_walks(self):
        wrong = ANY + (
            [0], [1], [2, 0], [0, 0], [1, 0, 0], [3, 0, 0], [True, 0], [1, True], [1, 1.0], [1.0, 1], ["1", 0], [1, None], "10",
            [25] + [0] * 25, [-1, 0], [(1, 0)], {1: 0, 0: 0}, [[1], 0],
        )
        for value in wrong:
            if value != (1, 2) and value != [1, 2]:
                with self.subTest(value=value):
                    self.assert_error(BadNumber("traces"), polynomial_from, value)
                    self.assert_error(BadNumber("traces"), polynomial_from, traces=value)
        self.assertEqual(polynomial_from([24] + [0] * 24), (0,) * 24 + (1,))
        self.assertEqual(polynomial_from((1, 2)), (-2, 1))


class OppositeFrom(Case):
    def test_against_the_opposite(self):
        for web in some_webs(222, 40, 9, "ab") + some_webs(223, 4, 24, "a") + [full(24), Web(24, []), Web(1, []), way(2)]:
            walks = [sum_of(web, "a" * k) for k in range(web.places)]
            told = polynomial_of(opposite(web, "a"), "a")
            with self.subTest(web=str(web)):
                self.assertEqual(opposite_from(polynomial_of(web, "a"), walks), told)
                self.assertEqual(opposite_from(sums=tuple(walks), polynomial=list(polynomial_of(web, "a"))), told)
        web = way(6)
        self.assertEqual(opposite(web, "a"), web.opposite("a"))

    def test_any_integers(self):
        # Values at many points tell a polynomial: y is -1 - x.
        chance = random.Random(224)
        for places in range(1, 25):
            for most in (3, 10 ** 40):
                numbers = [chance.randint(-most, most) for _ in range(places)] + [1]
                walks = [chance.randint(-most, most) for _ in range(places)]
                told = opposite_from(numbers, walks)
                self.assertEqual([len(told), told[-1], type(told)], [places + 1, 1, tuple])
                for x in range(-places - 2, places + 2):
                    y = -1 - x
                    worth = sum(number * y ** j for j, number in enumerate(numbers))
                    worth += sum(numbers[j] * walks[k] * y ** (j - k - 1) for j in range(places + 1) for k in range(j))
                    self.assertEqual(sum(number * x ** j for j, number in enumerate(told)), (-1) ** places * worth)

    def test_what_are_no_sums(self):
        wrong = ANY + ([1, 2], [], [True], [1.0], ["1"], [None], "1", [[1]], {0: 1}, [1, 1, 1])
        for value in wrong:
            if value != [1] or type(value[0]) is not int:
                with self.subTest(value=value):
                    self.assert_error(BadNumber("sums"), opposite_from, [0, 1], value)
                    self.assert_error(BadNumber("sums"), opposite_from, sums=value, polynomial=(-7, 1))
        self.assert_error(BadNumber("sums"), opposite_from, [0, 0, 1], [1])
        self.assert_error(BadNumber("sums"), opposite_from, [0] * 24 + [1], [0] * 23)
        self.assertEqual(opposite_from([0, 1], [1]), (0, 1))


class AlikeRounds(Case):
    def assert_alike(self, one, other, colour):
        told = by_choosing(one, colour) if one.places < 7 else polynomial_of(one, colour)
        for ones, others in ((one, other), (other, one)):
            found = alike_rounds(ones, others, colour)
            self.assertEqual([type(found), found.polynomial, found], [Rounds, told, Rounds(told)])

    def assert_unlike(self, one, other, colour, number):
        for ones, others in ((one, other), (other, one)):
            found = alike_rounds(ones, others, colour)
            self.assertEqual([type(found), found.number, found], [Length, number, Length(number)])
            self.assertEqual(alike_both(ones, others, colour), Length(number))

    def test_webs_with_their_places_in_another_order(self):
        chance = random.Random(225)
        for web in some_webs(226, 25, 9, "ab") + some_webs(227, 4, 24, "ab"):
            self.assert_alike(web, mixed_up(chance, web), "a")
            self.assert_alike(web, web, "b")

    def test_alike_webs_that_are_not_like(self):
        for one, other, *_ in UNLIKE_OPPOSITES + ALIKE_BOTH:
            self.assert_alike(Web.read(one), Web.read(other), "a")

    def test_ties_of_other_colours(self):
        star, square = Web.read("5 : 0a1 0a2 0a3 0a4 1b2 3c4"), Web.read("5 : 0a1 0a3 1a2 2a3 3d4")
        self.assert_alike(star, square, "a")
        self.assert_unlike(star, square, "b", 2)
        self.assert_alike(way(6), full(6), "b")
        self.assertEqual(alike_rounds(way(6), full(6), "b"), Rounds((0,) * 6 + (1,)))

    def test_the_least_length(self):
        chance = random.Random(228)
        many = {}
        for _ in range(200):
            places = chance.randint(2, 7)
            ties = chance.randint(1, places * (places - 1) // 2)
            pairs = list(itertools.combinations(range(places), 2))
            one, other = [Web(places, [(*pair, "a") for pair in chance.sample(pairs, ties)]) for _ in range(2)]
            walks = [closed_walks(web, "a", places + 1) for web in (one, other)]
            unlike = [k for k, (first, second) in enumerate(zip(*walks)) if first != second]
            if unlike:
                many[unlike[0]] = many.get(unlike[0], 0) + 1
                self.assert_unlike(one, other, "a", unlike[0])
            else:
                self.assert_alike(one, other, "a")
        self.assertGreaterEqual(len(many), 3)

    def test_short_and_long_lengths(self):
        self.assert_unlike(way(4), way(5), "a", 0)
        self.assert_unlike(Web(1, []), Web(24, []), "d", 0)
        self.assert_unlike(way(4), ring(4), "a", 2)
        for many in range(4, 13):
            # A round of so many places has two closed walks around from each place; two rounds of half as many, sooner.
            self.assert_unlike(ring(2 * many), ring(many).beside(ring(many)), "a", many)
        # Two ways and one: the round is closed only by the last step.
        self.assert_unlike(ring(24), ring(11).beside(ring(13)), "a", 11)
        self.assert_unlike(ring(5), Web.read("5 : 0a1 0a2 0a3 1a2 1a3"), "a", 3)

    def test_a_length_of_all_places(self):
        # Both have six places, and as many closed walks of each length below six.
        found = 0
        chance = random.Random(229)
        pairs = list(itertools.combinations(range(6), 2))
        seen = {}
        for _ in range(4000):
            web = Web(6, [(*pair, "a") for pair in chance.sample(pairs, chance.randint(6, 9))])
            numbers = polynomial_of(web, "a")
            for beside in seen.setdefault(numbers[1:], []):
                if polynomial_of(beside, "a") != numbers:
                    found += 1
                    self.assert_unlike(web, beside, "a", 6)
            if len(seen[numbers[1:]]) < 2:
                seen[numbers[1:]].append(web)
        self.assertGreater(found, 5)


class AlikeBoth(Case):
    def assert_both(self, one, other, colour):
        told = Both(polynomial_of(one, colour), polynomial_of(opposite(one, colour), colour))
        self.assertEqual(polynomial_of(opposite(other, colour), colour), told.opposite)
        for ones, others in ((one, other), (other, one)):
            found = alike_both(ones, others, colour)
            self.assertEqual([type(found), found, found.polynomial, found.opposite], [Both, told, *told.parts])

    def test_webs_with_their_places_in_another_order(self):
        chance = random.Random(230)
        for web in some_webs(231, 25, 9, "ab") + some_webs(232, 4, 24, "ab"):
            self.assert_both(web, mixed_up(chance, web), "a")
            self.assert_both(web, web, "b")

    def test_alike_webs_that_are_not_like(self):
        for one, other in ALIKE_BOTH:
            one, other = Web.read(one), Web.read(other)
            self.assert_both(one, other, "a")
            self.assert_both(Web(24, one.ties), Web(24, other.ties), "a")
            self.assertEqual(alike_sums(one, other, "a").word, "led")

    def test_the_first_word_of_unlike_sums(self):
        for one, other, many in UNLIKE_OPPOSITES:
            one, other = Web.read(one), Web.read(other)
            self.assertEqual(polynomial_of(one, "a"), polynomial_of(other, "a"))
            self.assertNotEqual(polynomial_of(opposite(one, "a"), "a"), polynomial_of(opposite(other, "a"), "a"))
            unlike = [k for k in range(20) if sum_of(one, "a" * k) != sum_of(other, "a" * k)]
            self.assertEqual(unlike[0], many)
            for ones, others in ((one, other), (other, one), (Web(24, one.ties), Web(24, other.ties))):
                self.assertEqual(alike_both(ones, others, "a"), Unlike("a" * many))
                self.assertEqual(alike_rounds(ones, others, "a").word, "rounds")
            self.assertEqual(alike_sums(one, other, "a"), Unlike("a" * many))

    def test_other_colours(self):
        for one, other, many in UNLIKE_OPPOSITES:
            one, other = [Web.read(text.replace("a", "c")) for text in (one, other)]
            self.assertEqual(alike_both(one, other, "c"), Unlike("c" * many))
            self.assertEqual(alike_both(one, other, "a").word, "both")
        star, square = Web.read("5 : 0a1 0a2 0a3 0a4 1b2 3c4"), Web.read("5 : 0a1 0a3 1a2 2a3 3d4")
        self.assertEqual(alike_both(star, square, "a"), Unlike("aa"))

    def test_a_length_goes_ahead_of_a_word(self):
        # Sums are unlike from one letter on, too; what is told is the length.
        self.assertEqual(alike_both(way(4), ring(4), "a"), Length(2))
        self.assertEqual(alike_both(ring(6), ring(3).beside(ring(3)), "a"), Length(3))
        self.assertEqual(alike_both(way(4), way(5), "a"), Length(0))

    def test_kinds_of_answers(self):
        both, unlike = alike_both(colour="a", other=way(3), one=way(3)), alike_both(Web.read(UNLIKE_OPPOSITES[0][0]), Web.read(UNLIKE_OPPOSITES[0][1]), "a")
        self.assertEqual([both.word, bool(both), both.parts], ["both", True, ((0, -2, 0, 1), (0, -1, 0, 1))])
        self.assertEqual([unlike.word, bool(unlike), unlike.parts], ["unlike", False, ("aa",)])
        rounds, length = alike_rounds(colour="a", other=way(3), one=way(3)), alike_rounds(way(3), ring(3), "a")
        self.assertEqual([rounds.word, bool(rounds), rounds.parts], ["rounds", True, ((0, -2, 0, 1),)])
        self.assertEqual([length.word, bool(length), length.parts], ["length", False, (2,)])


class Wrong(Case):
    def test_errors(self):
        for alike in (alike_rounds, alike_both):
            for value in ANY + ("2 : 0a1",):
                with self.subTest(value=value):
                    self.assert_error(BadWeb("one"), alike, value, way(2), "a")
                    self.assert_error(BadWeb("one"), alike, value, value, value)
                    self.assert_error(BadWeb("one"), alike, colour=None, other=None, one=value)
                    self.assert_error(BadWeb("other"), alike, way(2), value, "a")
                    self.assert_error(BadWeb("other"), alike, colour=None, other=value, one=way(24))
            for value in NO_COLOURS:
                with self.subTest(value=value):
                    self.assert_error(BadNumber("colour"), alike, way(2), way(3), value)
                    self.assert_error(BadNumber("colour"), alike, colour=value, other=way(3), one=way(24))

    def test_nothing_changes(self):
        numbers, walks = [1, 0, -3, 0, 1], [4, 6, 10, 16]
        self.assertEqual([traces_from(numbers, 3), opposite_from(numbers, walks)], [(4, 0, 6), (1, 0, -3, 0, 1)])
        self.assertEqual([numbers, walks], [[1, 0, -3, 0, 1], [4, 6, 10, 16]])


class Facts(Case):
    def test_closed_walks_are_traces_and_walks_are_sums(self):
        for web in some_webs(233, 10, 6, "ab"):
            walks = traces_from(polynomial_of(web, "b"), 12)
            self.assertEqual(walks, tuple(trace_of(web, "b" * k) for k in range(12)))

    def test_a_place_without_ties_more(self):
        for web in some_webs(234, 10, 8, "a"):
            self.assertEqual(polynomial_of(web.beside(Web(1, [])), "a"), (0,) + polynomial_of(web, "a"))
