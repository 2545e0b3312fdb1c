"""[9] Which papers on polynomials are right, for values of all kinds."""

import random

from littlewebs.check_polynomials import shows_both, shows_rounds
from littlewebs.closed import Trace
from littlewebs.errors import BadNumber, BadWeb
from littlewebs.led import Led, Unlike
from littlewebs.papers import Denial, Paper
from littlewebs.polynomials import Both, Length, Rounds, alike_both, alike_rounds
from littlewebs.webs import Web
from littlewebs.words import sum_of
from tests.helpers import Case, full, mixed_up, ring, some_web, some_webs, way, words_in
from tests.test_polynomials import ALIKE_BOTH, NO_COLOURS, UNLIKE_OPPOSITES, closed_walks
from tests.values import ANY, Alike

SHOWS = (shows_rounds, shows_both)

PATH, STAR, SQUARE = Web.read("4 : 0a1 1a2 2a3"), Web.read("5 : 0a1 0a2 0a3 0a4"), Web.read("5 : 0a1 0a3 1a2 2a3")


class LikeRounds(Rounds):
    """A class below Rounds: what is made by it is not made by calling Rounds."""


class LikeBoth(Both):
    """Likewise."""


class LikeLength(Length):
    """Likewise."""


def bent(numbers):
    """The numbers with one changed, left out, doubled, or no number at all."""
    numbers = list(numbers)
    found = [numbers[::-1] + [2], numbers + [0], numbers + [1], [], None, [numbers], "".join(map(str, numbers)), {0: 1}]
    for at, number in enumerate(numbers):
        for put in (number + 1, -number - 1, str(number), float(number), [number], None, (), "", (number, 1)):
            found.append(numbers[:at] + [put] + numbers[at + 1:])
        found.append(numbers[:at] + numbers[at + 1:])
        found.append(numbers[:at + 1] + numbers[at:] + [7])
        if number in (0, 1):
            found.append(numbers[:at] + [bool(number)] + numbers[at + 1:])
    return found


class Examples(Case):
    def test_of_the_interface(self):
        self.assert_examples("""
>>> path, star, square = Web.read("4 : 0a1 1a2 2a3"), Web.read("5 : 0a1 0a2 0a3 0a4"), Web.read("5 : 0a1 0a3 1a2 2a3")
>>> triangles, ring = Web.read("6 : 0a1 0a2 1a2 3a4 3a5 4a5"), Web.read("6 : 0a1 0a5 1a2 2a3 3a4 4a5")
>>> [shows_rounds(star, square, "a", Rounds([0, 0, 0, -4, 0, 1])), shows_rounds(path, star, "a", Length(2)), shows_rounds(star, square, "a", Length(4))]
[True, True, False]
>>> [shows_both(star, square, "a", Unlike("aaaa")), shows_both(star, square, "a", Unlike("aaa")), shows_both(triangles, ring, "a", Length(3))]
[True, False, True]
""", "led", "polynomials", "check_polynomials")

    def test_names_and_files(self):
        told = {"shows_rounds": "one other colour value", "shows_both": "one other colour value"}
        self.assert_signatures("check_polynomials", told)


class ShowsRoundsAndBoth(Case):
    def test_what_is_told(self):
        chance = random.Random(240)
        pairs = [(web, mixed_up(chance, web)) for web in some_webs(241, 20, 9, "ab") + some_webs(242, 3, 24, "ab")]
        pairs += [(some_web(chance, 5, "ab"), some_web(chance, 5, "ab")) for _ in range(40)]
        pairs += [(Web.read(one), Web.read(other)) for one, other, *_ in UNLIKE_OPPOSITES + ALIKE_BOTH]
        words = set()
        for one, other in pairs:
            for colour in "abc":
                rounds, both = alike_rounds(one, other, colour), alike_both(one, other, colour)
                words |= {rounds.word, both.word}
                self.assertIs(shows_rounds(one, other, colour, rounds), True)
                self.assertIs(shows_rounds(other, one, colour, rounds), True)
                self.assertIs(shows_both(one, other, colour, both), True)
                self.assertIs(shows_both(other, one, colour, both), True)
        self.assertEqual(words, {"rounds", "both", "length", "unlike"})

    def test_of_the_other_function(self):
        rounds, both = alike_rounds(PATH, PATH, "a"), alike_both(PATH, PATH, "a")
        self.assertIs(shows_both(PATH, PATH, "a", rounds), False)
        self.assertIs(shows_rounds(PATH, PATH, "a", both), False)
        self.assertIs(shows_rounds(STAR, SQUARE, "a", Unlike("aa")), False)
        self.assertIs(shows_rounds(PATH, STAR, "a", Unlike("")), False)
        self.assertIs(shows_both(PATH, STAR, "a", Unlike("")), True)

    def test_bent_numbers(self):
        numbers = alike_rounds(STAR, SQUARE, "a").polynomial
        for told in (numbers, list(numbers)):
            self.assertIs(shows_rounds(STAR, SQUARE, "a", Rounds(told)), True)
        for told in bent(numbers):
            with self.subTest(told=told):
                self.assertIs(shows_rounds(STAR, SQUARE, "a", Rounds(told)), False)
        one, other = Web.read(ALIKE_BOTH[0][0]), Web.read(ALIKE_BOTH[0][1])
        numbers, opposite = alike_both(one, other, "a").parts
        self.assertIs(shows_both(one, other, "a", Both(list(numbers), list(opposite))), True)
        self.assertIs(shows_both(one, other, "a", Both(opposite, numbers)), False)
        for told in bent(numbers):
            self.assertIs(shows_both(one, other, "a", Both(told, opposite)), False)
        for told in bent(opposite):
            self.assertIs(shows_both(one, other, "a", Both(numbers, told)), False)

    def test_webs_that_are_not_alike(self):
        for one, other, _ in UNLIKE_OPPOSITES:
            one, other = Web.read(one), Web.read(other)
            for web in (one, other):
                self.assertIs(shows_rounds(one, other, "a", alike_rounds(web, web, "a")), True)
                self.assertIs(shows_both(one, other, "a", alike_both(web, web, "a")), False)
                self.assertIs(shows_both(web, web, "a", alike_both(web, web, "a")), True)
        for web in (PATH, STAR):
            self.assertIs(shows_rounds(PATH, STAR, "a", alike_rounds(web, web, "a")), False)
            self.assertIs(shows_both(PATH, STAR, "a", alike_both(web, web, "a")), False)

    def test_the_colour_counts(self):
        web = Web.read("3 : 0a1 0c2 1b2")
        rounds = alike_rounds(web, web, "a")
        self.assertEqual([shows_rounds(web, web, colour, rounds) for colour in "abcd"], [True, True, True, False])


class ShowsLength(Case):
    def test_any_length(self):
        chance = random.Random(243)
        many = [0, 0]
        for _ in range(25):
            one, other = [some_web(chance, chance.choice((4, 4, 5)), "ab") for _ in range(2)]
            walks = [closed_walks(web, "a", 101) for web in (one, other)]
            for number, (first, second) in enumerate(zip(*walks)):
                many[first != second] += 1
                for shows in SHOWS:
                    self.assertIs(shows(one, other, "a", Length(number)), first != second)
        self.assertGreater(min(many), 100)

    def test_zero_to_a_hundred(self):
        for shows in SHOWS:
            for number in (0, 1, 2, 3, 50, 99, 100):
                # There is no closed walk of length 1 in either.
                self.assertIs(shows(full(24), full(23), "a", Length(number)), number != 1)
                self.assertIs(shows(full(24), full(24), "a", Length(number)), False)
            for number in (101, 102, 1000, -1, -100, 10 ** 399, -10 ** 399):
                self.assertIs(shows(full(24), full(23), "a", Length(number)), False)

    def test_what_is_no_length(self):
        for shows in SHOWS:
            self.assertIs(shows(PATH, STAR, "a", Length(0)), True)
            for value in ANY + (2.0, "2", [2], (2,), True, False, None, {2: 2}, Length(2)):
                if type(value) is not int or not 0 <= value <= 100:
                    with self.subTest(value=value):
                        self.assertIs(shows(PATH, STAR, "a", Length(value)), False)

    def test_ties_of_other_colours_do_not_matter(self):
        for shows in SHOWS:
            self.assertIs(shows(way(4), way(4, "b"), "c", Length(2)), False)
            self.assertIs(shows(way(4), way(4, "b"), "a", Length(2)), True)
            self.assertIs(shows(way(4), way(5, "b"), "d", Length(0)), True)


class ShowsUnlike(Case):
    def test_any_word_of_unlike_sums(self):
        chance = random.Random(244)
        many = [0, 0]
        for _ in range(60):
            one, other = [some_web(chance, chance.choice((4, 4, 5)), "ab") for _ in range(2)]
            for word in words_in("abA", 3):
                told = set(word) <= {"a"} and sum_of(one, word) != sum_of(other, word)
                many[told] += 1
                self.assertIs(shows_both(one, other, "a", Unlike(word)), told)
                self.assertIs(shows_rounds(one, other, "a", Unlike(word)), False)
        self.assertGreater(min(many), 50)

    def test_long_words(self):
        self.assertIs(shows_both(ring(5), full(5), "a", Unlike("a" * 80)), True)
        for word in ("a" * 81, "a" * 20000, "a" * 79 + "A", "a" * 79 + "b", "b" * 80, "A" * 80):
            self.assertIs(shows_both(ring(5), full(5), "a", Unlike(word)), False)

    def test_what_is_no_word(self):
        self.assertIs(shows_both(STAR, SQUARE, "a", Unlike("aa")), True)
        for value in ANY + (["aa"], ("a", "a"), [], "x", "aax", " ", "\u0430\u0430", b"aa", {"aa": 1}, {"aa"}, [[]], 2):
            with self.subTest(value=value):
                self.assertIs(shows_both(STAR, SQUARE, "a", Unlike(value)), False)


class OtherValues(Case):
    def test_values_of_all_kinds(self):
        for value in ANY + ("a", "", Rounds, Length, [Length(0)], (Length(0),), {"number": 0}, way(2)):
            for shows in SHOWS:
                with self.subTest(value=value):
                    self.assertIs(shows(way(2), way(3), "a", value), False)
                    self.assertIs(shows(way(2), way(2), "a", value), False)

    def test_papers_of_other_classes(self):
        numbers, opposite = alike_both(PATH, PATH, "a").parts
        wrong = (
            Paper("rounds", numbers), LikeRounds(numbers), Denial("rounds", numbers), Length(numbers), numbers, list(numbers),
            Paper("both", numbers, opposite), LikeBoth(numbers, opposite), (numbers, opposite), Led(numbers), Trace("aa"),
            Rounds(Rounds(numbers)), Rounds([numbers]), Both(Rounds(numbers), opposite), Both([numbers], [opposite]),
        )
        for value in wrong:
            for shows in SHOWS:
                self.assertIs(shows(PATH, PATH, "a", value), False)
        for value in (Denial("length", 0), Paper("length", 0), LikeLength(0), Trace(""), Length(Length(0)), Rounds(0), Led(0)):
            for shows in SHOWS:
                self.assertIs(shows(PATH, STAR, "a", value), False)

    def test_parts_of_all_kinds(self):
        for value in ANY:
            for told in (value, [value], [2, 0, -3, 0, value], [value] * 5):
                with self.subTest(told=told):
                    self.assertIs(shows_rounds(PATH, PATH, "a", Rounds(told)), False)
                    self.assertIs(shows_rounds(PATH, PATH, "a", Length(told)), False)
                    self.assertIs(shows_both(PATH, PATH, "a", Both(told, told)), False)
                    self.assertIs(shows_both(PATH, PATH, "a", Unlike(told)), False)
        self.assertIs(shows_rounds(PATH, PATH, "a", Rounds([1, 0, -3, 0, 1])), True)

    def test_what_equals_everything(self):
        numbers, opposite = alike_both(PATH, PATH, "a").parts
        for at in range(5):
            told = list(numbers)
            told[at] = Alike()
            self.assertIs(shows_rounds(PATH, PATH, "a", Rounds(told)), False)
            self.assertIs(shows_both(PATH, PATH, "a", Both(told, opposite)), False)
            self.assertIs(shows_both(PATH, PATH, "a", Both(numbers, told)), False)
        for value in (Alike(), Rounds(Alike()), Both(Alike(), Alike()), Length(Alike()), Unlike(Alike())):
            for shows in SHOWS:
                self.assertIs(shows(PATH, PATH, "a", value), False)
                self.assertIs(shows(PATH, STAR, "a", value), False)

    def test_great_values(self):
        deep = 1
        for _ in range(30):
            deep = [deep]
        for value in (deep, [1] * 9000, [10 ** 399] * 24 + [1], "a" * 20000, [[]] * 9000, 10 ** 399):
            for kind in (Rounds, Length, Led, Unlike, lambda part: Both(part, part)):
                for shows in SHOWS:
                    self.assertIs(shows(way(3), way(3), "a", kind(value)), False)


class Wrong(Case):
    def test_errors(self):
        right = Length(0)
        for shows in SHOWS:
            for value in ANY + ("2 : 0a1",):
                with self.subTest(value=value):
                    self.assert_error(BadWeb("one"), shows, value, way(3), "a", right)
                    self.assert_error(BadWeb("one"), shows, value, value, value, value)
                    self.assert_error(BadWeb("one"), shows, value=None, colour=None, other=None, one=value)
                    self.assert_error(BadWeb("other"), shows, way(2), value, "a", right)
                    self.assert_error(BadWeb("other"), shows, value=None, colour=None, other=value, one=way(24))
            for value in NO_COLOURS:
                with self.subTest(value=value):
                    self.assert_error(BadNumber("colour"), shows, way(2), way(3), value, right)
                    self.assert_error(BadNumber("colour"), shows, value=None, colour=value, other=way(24), one=way(24))
            self.assertIs(shows(value=right, colour="a", other=way(2), one=way(3)), True)
