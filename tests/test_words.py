"""[6] Words: sums, traces and walks against plain listing of all ways, and the little webs and rounds of words."""

import itertools
import random

from littlewebs.errors import BadWeb, BadWord, NoPlace, TooMany
from littlewebs.maps import maps
from littlewebs.webs import Web
from littlewebs.words import are_letters, is_word, little_of, round_of, sum_of, trace_of, walks
from tests.helpers import COLOURS, Case, full, lines, mixed_up, ring, some_web, some_webs, way
from tests.values import ANY, INTEGERS, OTHERS, ROWS, TRUTHS

LETTERS = "abcdABCD"

# Strings of the values of all kinds that are words are left out.
NO_WORDS = tuple(value for value in ANY if not isinstance(value, str) or value not in ("", "a")) + (
    "x", "e", "E", "ax", "xa", "a b", " a", "a ", "a\n", "1", "-", "a1", "\u0430", "\u00e4", b"a", ["a"], ("a", "b"), {"a": 1},
    "a" * 81, "aA" * 41, "D" * 81, "a" * 20000, "a" * 79 + "x", "e" * 80, ["a", "b"],
)

NO_PLACES = TRUTHS + OTHERS + ROWS + (-1, -4, 4, 5, 24, 10 ** 399, -10 ** 399)


def ways(web, word, place):
    """Where one comes to by each way to do the word from the place."""
    if not word:
        return [place]
    colour = word[0].lower()
    near = [other for other in range(web.places) if web.tied(place, other) == colour]
    return [end for other in near for end in ways(web, word[1:], other if word[0] == colour else place)]


def plain_table(web, word):
    """The table of the word: the product of the tables of its letters."""
    places = range(web.places)
    found = [[int(one == other) for other in places] for one in places]
    for letter in word:
        table = [[int(web.tied(one, other) == letter.lower()) for other in places] for one in places]
        if letter in "ABCD":
            table = [[sum(table[one]) if one == other else 0 for other in places] for one in places]
        found = [[sum(row[k] * table[k][other] for k in places if row[k]) for other in places] for row in found]
    return found


def some_words(chance, many, most, letters=LETTERS):
    return ["".join(chance.choices(letters, k=chance.randint(0, most))) for _ in range(many)]


class Examples(Case):
    def test_of_the_interface(self):
        self.assert_examples("""
>>> road = Web(4, [(0, 1, "a"), (1, 2, "a"), (2, 3, "b")])
>>> [sum_of(road, word) for word in ("", "a", "A", "aa", "AA", "ab", "Ab", "aAb", "bbb")]
[4, 4, 4, 6, 6, 1, 1, 1, 2]
>>> [trace_of(road, word) for word in ("", "a", "aa", "A", "aaa", "aaaa", "abba")]
[4, 0, 4, 4, 0, 8, 1]
>>> [walks(road, "ab", 1), walks(road, "ab", 2), walks(road, "aA", 0), walks(road, "Ab", 2), walks(road, "", 3)]
[1, 0, 2, 1, 1]
>>> [little_of("aAb").ties, little_of("AAB").ties, little_of("").places, round_of("aab").ties]
[((0, 1, 'a'), (1, 2, 'a'), (1, 3, 'b')), ((0, 1, 'a'), (0, 2, 'a'), (0, 3, 'b')), 1, ((0, 1, 'a'), (0, 2, 'b'), (1, 2, 'a'))]
>>> [is_word("aBd"), is_word("abe"), is_word(["a"]), is_word(""), are_letters("aA"), are_letters("aa"), are_letters("abcdA"), maps(little_of("aAb"), road)]
[True, False, False, True, True, False, False, 1]
>>> round_of("ab")
raises BadWord('word')
>>> sum_of(road, "x")
raises BadWord('word')
""", "maps", "words")

    def test_names_and_files(self):
        self.assert_signatures("words", {
            "is_word": "value", "are_letters": "value", "sum_of": "web word", "trace_of": "web word",
            "walks": "web word place", "little_of": "word", "round_of": "word",
        })


class IsWord(Case):
    def test_words(self):
        for many in range(4):
            for letters in itertools.product(LETTERS, repeat=many):
                self.assertIs(is_word("".join(letters)), True)
        self.assertIs(is_word(value="abcdABCD" * 10), True)
        self.assertIs(is_word("a" * 80), True)

    def test_other_values(self):
        for value in NO_WORDS:
            with self.subTest(value=value):
                self.assertIs(is_word(value), False)

    def test_one_wrong_sign_anywhere(self):
        for sign in (chr(number) for number in range(300)):
            told = sign in "abcdABCD"
            for word in (sign, "a" + sign, sign + "D", "aB" + sign + "cA"):
                self.assertIs(is_word(word), told)
                self.assertIs(are_letters(sign), told)


class AreLetters(Case):
    def test_all_short_strings(self):
        for many in range(6):
            for letters in itertools.product("abCD", repeat=many):
                told = many <= 4 and len(set(letters)) == many
                self.assertIs(are_letters("".join(letters)), told)

    def test_colours_and_capitals_are_unlike(self):
        for value in ("aA", "Aa", "aAbB", "dDcC", "DCBA", "dcba", "", "abcd"):
            self.assertIs(are_letters(value), True)
        for value in ("aAa", "abcdA", "abcdABCD", "AA", "aAbA", "abcda"):
            self.assertIs(are_letters(value=value), False)

    def test_other_values(self):
        for value in NO_WORDS:
            with self.subTest(value=value):
                self.assertIs(are_letters(value), False)


class Counts(Case):
    def assert_counts(self, web, word):
        found = [ways(web, word, place) for place in range(web.places)]
        self.assertEqual([walks(web, word, place) for place in range(web.places)], [len(ends) for ends in found])
        self.assertEqual(sum_of(web, word), sum(len(ends) for ends in found))
        self.assertEqual(trace_of(web, word), sum(ends.count(place) for place, ends in enumerate(found)))

    def test_all_short_words(self):
        for web in some_webs(40, 12, 5, "ab"):
            for many in range(4):
                for letters in itertools.product("abAB", repeat=many):
                    self.assert_counts(web, "".join(letters))

    def test_some_words(self):
        chance = random.Random(41)
        for web in some_webs(42, 80, 8):
            for word in some_words(chance, 8, 5) + some_words(chance, 4, 5, "aA"):
                self.assert_counts(web, word)

    def test_no_letters_and_one(self):
        for web in some_webs(43, 30, 24):
            self.assertEqual([sum_of(web, ""), trace_of(web, ""), walks(web, "", web.places - 1)], [web.places, web.places, 1])
            for colour in COLOURS:
                many = 2 * sum(own == colour for _, _, own in web.ties)
                self.assertEqual([sum_of(web, colour), trace_of(web, colour)], [many, 0])
                self.assertEqual([sum_of(web, colour.upper()), trace_of(web, colour.upper())], [many, many])
                for place in range(web.places):
                    self.assertEqual(walks(web, colour, place), web.degree(place, colour))
                    self.assertEqual(walks(web, colour.upper(), place), web.degree(place, colour))

    def test_first_letter_first(self):
        road = Web.read("4 : 0a1 1b2 2c3")
        self.assertEqual([walks(road, "abc", place) for place in range(4)], [1, 0, 0, 0])
        self.assertEqual([walks(road, "cba", place) for place in range(4)], [0, 0, 0, 1])
        self.assertEqual([walks(road, "Ab", place) for place in range(4)], [0, 1, 0, 0])
        self.assertEqual([walks(road, "aB", place) for place in range(4)], [1, 0, 0, 0])

    def test_long_words_in_great_webs(self):
        chance = random.Random(44)
        for word in ("".join(chance.choices("abAB", k=80)), "a" * 80, "aB" * 40):
            web = some_web(chance, 24, "ab", 0.5)
            table = plain_table(web, word)
            self.assertEqual(sum_of(web, word), sum(map(sum, table)))
            self.assertEqual(trace_of(web, word), sum(table[place][place] for place in range(24)))
            self.assertEqual([walks(web, word, place) for place in range(24)], [sum(row) for row in table])

    def test_webs_in_which_all_is_alike(self):
        self.assertEqual(sum_of(full(24), "a" * 80), 24 * 23 ** 80)
        self.assertEqual(sum_of(full(24), "A" * 80), 24 * 23 ** 80)
        self.assertEqual(walks(full(24), "aA" * 40, 7), 23 ** 80)
        # The table of a full web has 23 once, and 23 times -1, as what it stretches columns by.
        self.assertEqual(trace_of(full(24), "a" * 80), 23 ** 80 + 23)
        self.assertEqual(trace_of(full(24), "a" * 79), 23 ** 79 - 23)
        self.assertEqual(trace_of(full(24), "A" * 80), 24 * 23 ** 80)
        self.assertEqual(sum_of(lines(24, (1, 2, 12)), "aA" * 40), 24 * 5 ** 80)

    def test_by_name(self):
        road = Web.read("3 : 0a1 1b2")
        self.assertEqual([sum_of(word="ab", web=road), trace_of(word="aa", web=road)], [1, 2])
        self.assertEqual(walks(place=0, word="ab", web=road), 1)


class Facts(Case):
    def setUp(self):
        self.chance = random.Random(45)
        self.webs = some_webs(46, 12, 7, "ab")

    def test_sums_are_maps_of_little_webs(self):
        for web in self.webs:
            for word in some_words(self.chance, 10, 4):
                self.assertEqual(sum_of(web, word), maps(little_of(word), web))

    def test_traces_are_maps_of_rounds(self):
        for web in self.webs:
            for word in some_words(self.chance, 10, 5, "abc"):
                if len(word) >= 3:
                    self.assertEqual(trace_of(web, word), maps(round_of(word), web))

    def test_backward(self):
        for web in self.webs:
            for word in some_words(self.chance, 10, 9, "abAB"):
                self.assertEqual(sum_of(web, word), sum_of(web, word[::-1]))
                self.assertEqual(trace_of(web, word), trace_of(web, word[::-1]))

    def test_the_first_letter_last(self):
        for web in self.webs:
            for word in some_words(self.chance, 10, 9, "abAB"):
                self.assertEqual(trace_of(web, word), trace_of(web, word[1:] + word[:1]))

    def test_capitals_side_by_side(self):
        for web in self.webs:
            for ahead, behind in zip(some_words(self.chance, 5, 4), some_words(self.chance, 5, 4)):
                for count in (sum_of, trace_of):
                    self.assertEqual(count(web, ahead + "AB" + behind), count(web, ahead + "BA" + behind))

    def test_webs_beside_one_another(self):
        for one, other in itertools.combinations(self.webs, 2):
            for word in some_words(self.chance, 3, 6, "abAB"):
                for count in (sum_of, trace_of):
                    self.assertEqual(count(one.beside(other), word), count(one, word) + count(other, word))

    def test_walks_letter_by_letter(self):
        for web in self.webs:
            for word in some_words(self.chance, 5, 6, "abAB"):
                for place, colour in itertools.product(range(web.places), "ab"):
                    near = web.neighbours(place, colour)
                    self.assertEqual(walks(web, colour + word, place), sum(walks(web, word, other) for other in near))
                    told = walks(web, word, place) * web.degree(place, colour)
                    self.assertEqual(walks(web, colour.upper() + word, place), told)

    def test_places_in_another_order(self):
        for web in self.webs:
            for word in some_words(self.chance, 5, 9, "abAB"):
                for count in (sum_of, trace_of):
                    self.assertEqual(count(mixed_up(self.chance, web), word), count(web, word))


def plain_little(word):
    here, ties = 0, []
    for at in range(len(word)):
        ties.append((here, at + 1, word[at].lower()))
        here = at + 1 if word[at].islower() else here
    return Web(len(word) + 1, ties)


class LittleOf(Case):
    def test_all_short_words(self):
        for many in range(4):
            for letters in itertools.product(LETTERS, repeat=many):
                self.assertEqual(little_of("".join(letters)), plain_little("".join(letters)))

    def test_long_words(self):
        for word in some_words(random.Random(47), 60, 23):
            self.assertEqual(little_of(word=word), plain_little(word))
            self.assertIs(little_of(word).is_tree(), True)

    def test_paths_and_stars(self):
        for many in range(24):
            self.assertEqual(little_of("a" * many), way(many + 1))
            self.assertEqual(little_of("D" * many), Web(many + 1, [(0, at + 1, "d") for at in range(many)]))
        self.assertEqual(str(little_of("abAcB")), "6 : 0a1 1b2 2a3 2c4 4b5")

    def test_too_many(self):
        self.assertEqual(little_of("aB" * 11 + "c").places, 24)
        for many in (24, 25, 80):
            self.assert_error(TooMany("places", 24), little_of, "a" * many)
            self.assert_error(TooMany("places", 24), little_of, "A" * many)

    def test_no_word(self):
        for value in NO_WORDS:
            with self.subTest(value=value):
                self.assert_error(BadWord("word"), little_of, value)
                self.assert_error(BadWord("word"), little_of, word=value)


class RoundOf(Case):
    def test_words_of_colours(self):
        for many in range(3, 6):
            for letters in itertools.product(COLOURS, repeat=many):
                ties = [(at, (at + 1) % many, letters[at]) for at in range(many)]
                self.assertEqual(round_of("".join(letters)), Web(many, ties))
        self.assertEqual(str(round_of(word="abcd")), "4 : 0a1 0d3 1b2 2c3")

    def test_long_words(self):
        for many in range(3, 25):
            self.assertEqual(round_of("c" * many), ring(many, "c"))

    def test_too_many(self):
        for many in (25, 26, 80):
            self.assert_error(TooMany("places", 24), round_of, "ab" * (many // 2) + "a" * (many % 2))

    def test_capitals_and_short_words(self):
        for word in ("", "a", "ab", "A", "AB", "ABC", "abC", "Abc", "aBc", "aaaA", "A" * 25, "a" * 79 + "B", "AAA", "aab" * 9 + "D"):
            self.assert_error(BadWord("word"), round_of, word)

    def test_no_word(self):
        for value in NO_WORDS:
            with self.subTest(value=value):
                self.assert_error(BadWord("word"), round_of, value)
                self.assert_error(BadWord("word"), round_of, word=value)


class Wrong(Case):
    def test_no_web(self):
        for value in ANY + ("2 : 0a1",):
            for count in (sum_of, trace_of):
                with self.subTest(value=value):
                    self.assert_error(BadWeb("web"), count, value, "a")
                    self.assert_error(BadWeb("web"), count, value, "x")
                    self.assert_error(BadWeb("web"), count, word=None, web=value)
            self.assert_error(BadWeb("web"), walks, value, "a", 0)
            self.assert_error(BadWeb("web"), walks, value, "x", 99)

    def test_no_word(self):
        for value in NO_WORDS:
            for count in (sum_of, trace_of):
                with self.subTest(value=value):
                    self.assert_error(BadWord("word"), count, way(3), value)
                    self.assert_error(BadWord("word"), count, word=value, web=way(24))
            self.assert_error(BadWord("word"), walks, way(3), value, 0)
            self.assert_error(BadWord("word"), walks, way(3), value, 99)

    def test_no_place(self):
        for value in NO_PLACES:
            for word in ("", "a", "aB"):
                with self.subTest(value=value, word=word):
                    self.assert_error(NoPlace(value), walks, way(4), word, value)
                    self.assert_error(NoPlace(value), walks, place=value, word=word, web=way(4))
        self.assertEqual(walks(way(24), "a", 23), 1)
