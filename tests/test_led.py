"""[7] One table for all words: kept words, the table told, and the first word of unlike sums."""

import itertools
import random
from fractions import Fraction

from littlewebs.errors import BadWeb, BadWord, TooMany
from littlewebs.led import Led, Unlike, alike_sums, basis
from littlewebs.papers import Denial, Paper
from littlewebs.webs import Web
from littlewebs.words import sum_of, walks
from tests.helpers import (
    Case, PlainSpan, full, lines, mixed_up, plain_kept, ring, some_web, some_webs, way, words_in,
)
from tests.values import ANY

NO_LETTERS = tuple(value for value in ANY if not isinstance(value, str) or value not in ("", "a")) + (
    "aa", "aAa", "abcda", "abcdA", "x", "ax", "a b", " ", "e", "\u0430", b"a", ["a"], ("a", "A"), "AA", "a\n",
)

# Pairs of webs all of whose words have equal sums, though they are not like: all by ties of one colour.
ALIKE = [
    ("6 : 0a1 0a2 1a2 3a4 3a5 4a5", "6 : 0a1 0a5 1a2 2a3 3a4 4a5", "aA"),
    ("7 : 0a3 0a4 1a2 1a4 2a3 2a6 3a5 3a6 5a6", "7 : 0a2 0a3 0a5 1a4 1a5 1a6 2a4 2a6 4a6", "a"),
    ("7 : 1a4 1a5 2a3 2a6 3a4 3a5 3a6 4a5 4a6", "7 : 0a2 0a4 1a2 1a4 1a5 1a6 2a4 4a5 5a6", "a"),
    (
        "8 : 0a2 0a3 0a4 0a6 0a7 1a2 1a6 1a7 2a3 2a4 2a6 2a7 3a4 3a5 3a6 3a7 4a5 5a6 5a7 6a7",
        "8 : 0a3 0a5 0a6 0a7 1a2 1a3 1a4 1a5 1a6 1a7 2a4 2a7 3a4 3a5 4a5 4a6 4a7 5a6 5a7 6a7", "a",
    ),
]

# Pairs of webs, letters, and the first word of unlike sums: from early ones to late ones.
UNLIKE = [
    ("4 : 0a1 1a2 2a3", "5 : 0a1 0a2 0a3 0a4", "a", ""),
    ("4 : 0a1 1a2 2a3", "4 : 0a1 1a2", "a", "a"),
    ("4 : 0a1 1a2 2a3", "4 : 0a1 1a2", "A", "A"),
    ("4 : 0a1 1a2 2a3", "4 : 0a1 1b2 2a3", "ba", "b"),
    ("5 : 0a1 0a2 0a3 0a4", "5 : 0a1 0a3 1a2 2a3", "a", "aa"),
    ("6 : 0b1 1b2 1a5 2b4", "6 : 0a4 1b3 2b3 2b5", "ab", "ab"),
    ("6 : 0b1 1b2 1a5 2b4", "6 : 0b3 0a4 1b3 1b4", "ab", "abb"),
    ("6 : 0b1 0b3 0b4 1b2 1a5 2a3 3b5 4b5", "6 : 0a1 0b3 0b5 1b2 1b4 2b4 3a5 4b5", "ab", "abba"),
    ("7 : 0a1 0a3 0a6 1a2 1a3 2a5 2a6 3a4 3a6 4a5 5a6", "7 : 0a1 0a4 0a6 1a2 1a4 1a6 2a3 2a4 2a5 3a5 5a6", "a", "aaaaa"),
    ("7 : 0a1 0a3 0a6 1a2 1a3 2a5 2a6 3a4 3a6 4a5 5a6", "7 : 0a1 0a2 0a3 0a5 1a4 1a6 2a4 3a5 3a6 4a5 5a6", "a", "aaaaaa"),
    (
        "7 : 0a2 0a4 0a5 1a3 1a4 1a6 2a3 2a5 2a6 3a4 3a5 4a6", "7 : 0a2 0a3 0a4 0a5 1a3 1a4 1a6 2a4 2a5 3a5 3a6 4a6",
        "a", "aaaaaaa",
    ),
    (
        "7 : 0a2 0a3 0a5 0a6 1a3 1a4 1a5 1a6 2a3 2a6 3a4 4a5 4a6",
        "7 : 0a2 0a3 0a6 1a2 1a3 1a4 1a5 2a5 2a6 3a4 3a6 4a5 5a6", "a", "aaaaaaaa",
    ),
    ("8 : 0a1 0a5 1a2 2a6 2a7 4a6 4a7 5a6", "8 : 1a4 1a7 2a5 2a6 3a5 3a6 4a7 6a7", "a", "aaaaaaaa"),
]


def column(web, word):
    return [walks(web, word, place) for place in range(web.places)]


def product(table, numbers):
    return [sum(Fraction(*one) * other for one, other in zip(row, numbers)) for row in table]


def square_to(columns, many):
    """Columns that make up all that is at right angles to these columns."""
    rows = []
    for one in columns:
        row = [Fraction(worth) for worth in one]
        for at, ahead in rows:
            row = [worth - row[at] * other for worth, other in zip(row, ahead)]
        at = next(at for at, worth in enumerate(row) if worth)
        row = [worth / row[at] for worth in row]
        rows = [(k, [worth - other[at] * more for worth, more in zip(other, row)]) for k, other in rows] + [(at, row)]
    free = [at for at in range(many) if at not in [k for k, _ in rows]]
    found = []
    for place in free:
        told = [Fraction(int(at == place)) for at in range(many)]
        for at, row in rows:
            told[at] = -row[place]
        found.append(told)
    return found


class Examples(Case):
    def test_of_the_interface(self):
        self.assert_examples("""
>>> path, star = Web.read("4 : 0a1 1a2 2a3"), Web.read("5 : 0a1 0a2 0a3 0a4")
>>> [basis(path, "a"), basis(path, "Aa"), basis(path, ""), basis(star, "a"), basis(Web.read("3 :"), "ab")]
[('', 'a'), ('', 'A'), ('',), ('', 'a'), ('',)]
>>> alike_sums(path, path, "a").table
(((1, 2), (0, 1), (0, 1), (1, 2)), ((0, 1), (1, 2), (1, 2), (0, 1)), ((0, 1), (1, 2), (1, 2), (0, 1)), ((1, 2), (0, 1), (0, 1), (1, 2)))
>>> two, six = Web.read("6 : 0a1 0a2 1a2 3a4 3a5 4a5"), Web.read("6 : 0a1 0a5 1a2 2a3 3a4 4a5")
>>> [alike_sums(two, six, "aA") == Led([[(1, 6)] * 6] * 6), alike_sums(star, Web.read("5 : 0a1 0a3 1a2 2a3"), "a").letters, alike_sums(path, star, "a").letters]
[True, 'aa', '']
>>> one, other = Web.read("7 : 0a3 0a4 1a2 1a4 2a3 2a6 3a5 3a6 5a6"), Web.read("7 : 0a2 0a3 0a5 1a4 1a5 1a6 2a4 2a6 4a6")
>>> [basis(one, "a"), alike_sums(one, other, "a").table[1], alike_sums(one, other, "aA").letters, alike_sums(one, other, "Aa").letters]
[('', 'a', 'aa', 'aaa', 'aaaa', 'aaaaa'), ((1, 2), (-1, 2), (0, 1), (1, 2), (1, 4), (0, 1), (1, 4)), 'aAa', 'AAA']
>>> basis(path, "aa")
raises BadWord('letters')
""", "led")

    def test_names_and_files(self):
        self.assert_signatures("led", {
            "Led": "table", "Unlike": "letters", "basis": "web letters", "alike_sums": "one other letters",
        })


class Papers(Case):
    def test_classes(self):
        self.assertEqual([Led.__bases__, Unlike.__bases__], [(Paper,), (Denial,)])

    def test_any_parts(self):
        for value in ANY:
            led, unlike = Led(value), Unlike(value)
            with self.subTest(value=value):
                self.assertEqual([led.word, bool(led), unlike.word, bool(unlike)], ["led", True, "unlike", False])
                for kept in (led.table, led.parts[0], unlike.letters, unlike.parts[0]):
                    if not isinstance(value, (list, tuple)):
                        self.assertIs(kept, value)
                self.assertEqual([len(led.parts), len(unlike.parts)], [1, 1])

    def test_lists_become_tuples(self):
        passed = [[(1, 2), [1, 2]], ([0, 1], (1, 1))]
        led = Led(passed)
        passed[0].append(1)
        self.assertEqual(led.table, (((1, 2), (1, 2)), ((0, 1), (1, 1))))
        self.assertEqual(led.parts, (led.table,))
        self.assertEqual(Unlike(["a"]).letters, ("a",))
        self.assertEqual(led, Led(table=[[(1, 2), (1, 2)], [(0, 1), (1, 1)]]))

    def test_equality(self):
        self.assertIs(Led("a") == Led("a"), True)
        self.assertIs(Led("a") == Led("b"), False)
        self.assertIs(Led("a") == Unlike("a"), False)
        self.assertIs(Unlike(letters="ab") == Unlike("ab"), True)
        self.assertIs(Unlike("ab") == Denial("unlike", "ab"), False)
        self.assertIs(Led("a") == Paper("led", "a"), False)


class Basis(Case):
    def assert_basis(self, web, letters):
        with self.subTest(web=str(web), letters=letters):
            self.assertEqual(basis(web, letters), plain_kept(letters, lambda word: column(web, word)))

    def test_against_plain_reckoning(self):
        for web in some_webs(50, 40, 4, "ab"):
            for letters in ("a", "A", "ab", "ba", "aA", "Aa", "AB", "bA", ""):
                self.assert_basis(web, letters)

    def test_three_and_four_letters(self):
        for web in some_webs(51, 25, 4):
            for letters in ("abc", "cAa", "abcd", "dcba", "aAbB", "BaDc", "ABCD"):
                self.assert_basis(web, letters)

    def test_one_letter_and_many_places(self):
        for web in some_webs(52, 25, 12, "ab") + [way(12), ring(12), full(12), way(11)]:
            for letters in "aAb":
                self.assert_basis(web, letters)

    def test_two_letters_and_six_places(self):
        for web in some_webs(53, 10, 6, "ab") + [way(6)]:
            for letters in ("ab", "Aa", "bB"):
                self.assert_basis(web, letters)

    def test_no_letters(self):
        for web in some_webs(54, 20, 12):
            self.assertEqual(basis(web, ""), ("",))

    def test_no_ties(self):
        for places in range(1, 13):
            for letters in ("a", "abcd", "ABCD", "aAbB"):
                self.assertEqual(basis(Web(places, []), letters), ("",))
        self.assertEqual(basis(way(5), "bcd"), ("",))

    def test_letters_in_another_order(self):
        self.assertEqual(basis(way(4), "aA"), ("", "a"))
        self.assertEqual(basis(way(5), "aA"), ("", "a", "aa"))
        self.assertEqual(basis(way(5), "Aa"), ("", "A", "aA"))
        web = Web.read("3 : 0a1 1b2")
        self.assertEqual([basis(web, "ab"), basis(web, "ba"), basis(web, "BA")], [("", "a", "b"), ("", "b", "a"), ("", "B", "A")])

    def test_many_kept_words(self):
        web = Web(12, [(at, at + 1, "abcd"[at % 4] if at < 8 else "a") for at in range(11)])
        for letters in ("abcd", "aAbB", "DCBA"):
            kept = basis(web, letters)
            span = PlainSpan()
            self.assertTrue(all(span.widened(column(web, word)) for word in kept))
            self.assertEqual(list(kept), sorted(kept, key=lambda word: (len(word), [letters.index(sign) for sign in word])))
            for word in kept:
                for letter in letters:
                    self.assertFalse(span.widened(column(web, letter + word)))
        self.assertEqual(len(basis(web, "abcd")), 12)

    def test_kind_of_answer(self):
        self.assertIs(type(basis(way(4), "a")), tuple)
        self.assertEqual(basis(letters="a", web=way(4)), ("", "a"))

    def test_errors(self):
        for value in ANY + ("2 : 0a1",):
            with self.subTest(value=value):
                self.assert_error(BadWeb("web"), basis, value, "a")
                self.assert_error(BadWeb("web"), basis, value, "aa")
                self.assert_error(BadWeb("web"), basis, letters=None, web=value)
        for value in NO_LETTERS:
            with self.subTest(value=value):
                self.assert_error(BadWord("letters"), basis, way(3), value)
                self.assert_error(BadWord("letters"), basis, letters=value, web=way(13))
        for places in range(13, 25):
            self.assert_error(TooMany("places", 12), basis, Web(places, []), "a")
            self.assert_error(TooMany("places", 12), basis, web=way(places), letters="")
        self.assertEqual(basis(Web(12, []), "a"), ("",))


class AlikeSums(Case):
    def assert_led(self, one, other, letters):
        """That the table is the one told, either way about."""
        found = alike_sums(one, other, letters)
        self.assertIs(type(found), Led)
        kept = plain_kept(letters, lambda word: column(one, word))
        self.assertEqual(kept, plain_kept(letters, lambda word: column(other, word)))
        self.assertEqual([len(row) for row in found.table], [other.places] * one.places)
        for word in kept:
            self.assertEqual(product(found.table, column(other, word)), column(one, word))
        for numbers in square_to([column(other, word) for word in kept], other.places):
            self.assertFalse(any(product(found.table, numbers)))
        for top, bottom in itertools.chain(*found.table):
            self.assertEqual((top, bottom), Fraction(top, bottom).as_integer_ratio())
            self.assertEqual([type(top), type(bottom)], [int, int])
        self.assertEqual(alike_sums(other, one, letters), Led(list(zip(*found.table))))
        self.assert_leads(one, other, letters, found.table)

    def assert_leads(self, one, other, letters, table):
        table = [[Fraction(*worth) for worth in row] for row in table]
        self.assertEqual([sum(row) for row in table], [1] * one.places)
        self.assertEqual([sum(row) for row in zip(*table)], [1] * other.places)
        for letter in letters:
            ahead = [[walks_of(one, letter, place, to) for to in range(one.places)] for place in range(one.places)]
            behind = [[walks_of(other, letter, place, to) for to in range(other.places)] for place in range(other.places)]
            self.assertEqual(times(ahead, table), times(table, behind))

    def assert_unlike(self, one, other, letters, word):
        self.assertEqual(alike_sums(one, other, letters), Unlike(word))
        self.assertEqual(alike_sums(other, one, letters), Unlike(word))

    def test_pairs_that_are_alike(self):
        for one, other, letters in ALIKE:
            for some in {letters, letters[::-1], letters[:1], ""}:
                self.assert_led(Web.read(one), Web.read(other), some)

    def test_a_web_with_its_places_in_another_order(self):
        chance = random.Random(55)
        for web in some_webs(56, 25, 6, "ab"):
            for letters in ("a", "bA", "aAb", ""):
                self.assert_led(web, mixed_up(chance, web), letters)
                self.assert_led(web, web, letters)

    def test_regular_webs(self):
        for one, other in ((lines(12, (1, 2)), lines(12, (1, 5))), (ring(12), ring(5).beside(ring(7))), (full(4), full(4))):
            self.assert_led(one, other, "aA")
            self.assertEqual(alike_sums(one, other, "aA").table, ((((1, one.places),) * one.places),) * one.places)
        web = Web(12, [(at, at + 1, "abcd"[at % 4] if at < 8 else "a") for at in range(11)])
        order = [5, 3, 8, 11, 0, 2, 1, 10, 9, 4, 7, 6]
        table = [[(int(order[column] == row), 1) for column in range(12)] for row in range(12)]
        self.assertEqual(alike_sums(web, web.renamed(order), "abcd"), Led(table))

    def test_no_letters(self):
        for one, other in zip(some_webs(57, 30, 12), some_webs(58, 30, 12)):
            if one.places == other.places:
                self.assertEqual(alike_sums(one, other, ""), Led([[(1, one.places)] * one.places] * one.places))
            else:
                self.assert_unlike(one, other, "", "")

    def test_no_ties(self):
        self.assertEqual(alike_sums(Web(3, []), Web(3, []), "abAB"), Led([[(1, 3)] * 3] * 3))
        self.assertEqual(alike_sums(way(3), ring(3), "bcBC"), Led([[(1, 3)] * 3] * 3))
        self.assertEqual(alike_sums(Web(1, []), Web(1, []), "a"), Led([[(1, 1)]]))

    def test_pairs_that_part_early_and_late(self):
        for one, other, letters, word in UNLIKE:
            with self.subTest(word=word, letters=letters):
                self.assert_unlike(Web.read(one), Web.read(other), letters, word)

    def test_the_first_word_of_all(self):
        chance = random.Random(59)
        many = 0
        for _ in range(150):
            places = chance.randint(2, 4)
            one, other = some_web(chance, places, "ab"), some_web(chance, places, "ab")
            letters = chance.choice(("a", "ab", "ba", "aA", "Aa", "BA", "bA"))
            unlike = [word for word in words_in(letters, 7) if sum_of(one, word) != sum_of(other, word)]
            if unlike:
                many += 1
                self.assert_unlike(one, other, letters, unlike[0])
            else:
                self.assert_led(one, other, letters)
        self.assertGreater(many, 50)

    def test_three_and_four_letters(self):
        chance = random.Random(60)
        for _ in range(40):
            one = some_web(chance, 4)
            other = mixed_up(chance, one)
            letters = chance.choice(("abc", "dcba", "aAbB", "ABCD", "bCA"))
            self.assert_led(one, other, letters)
            other = some_web(chance, 4)
            unlike = [word for word in words_in(letters, 4) if sum_of(one, word) != sum_of(other, word)]
            if unlike:
                self.assert_unlike(one, other, letters, unlike[0])

    def test_letters_in_another_order(self):
        one, other = Web.read("4 : 0a1 1b2"), Web.read("4 : 0c1 1d2")
        for letters in map("".join, itertools.permutations("abcd", 2)):
            self.assert_unlike(one, other, letters, letters[0])
        one, other = Web.read(ALIKE[1][0]), Web.read(ALIKE[1][1])
        self.assert_unlike(one, other, "aA", "aAa")
        self.assert_unlike(one, other, "Aa", "AAA")
        self.assert_unlike(one, other, "A", "AAA")

    def test_unlike_many_places(self):
        for one, other in ((1, 2), (2, 1), (12, 11), (3, 12)):
            for letters in ("", "a", "Aa", "abcd"):
                self.assert_unlike(Web(one, []), Web(other, []), letters, "")
                self.assert_unlike(way(one), full(other), letters, "")

    def test_kinds_of_answers(self):
        led, unlike = alike_sums(letters="a", other=way(3), one=way(3)), alike_sums(way(3), way(4), "a")
        self.assertEqual([led.word, bool(led), led.parts], ["led", True, (led.table,)])
        self.assertEqual([unlike.word, bool(unlike), unlike.parts], ["unlike", False, ("",)])
        self.assertEqual([type(led.table), type(led.table[0]), type(led.table[0][0])], [tuple] * 3)
        self.assertEqual(led, alike_sums(way(3), way(3), "a"))

    def test_errors(self):
        for value in ANY + ("2 : 0a1",):
            with self.subTest(value=value):
                self.assert_error(BadWeb("one"), alike_sums, value, way(2), "a")
                self.assert_error(BadWeb("one"), alike_sums, value, value, value)
                self.assert_error(BadWeb("one"), alike_sums, letters=None, other=None, one=value)
                self.assert_error(BadWeb("other"), alike_sums, way(2), value, "a")
                self.assert_error(BadWeb("other"), alike_sums, way(13), value, "aa")
                self.assert_error(BadWeb("other"), alike_sums, letters=None, other=value, one=way(24))
        for value in NO_LETTERS:
            with self.subTest(value=value):
                self.assert_error(BadWord("letters"), alike_sums, way(2), way(3), value)
                self.assert_error(BadWord("letters"), alike_sums, letters=value, other=way(13), one=way(24))

    def test_too_many_places(self):
        for places in (13, 14, 24):
            for one, other in ((places, 12), (12, places), (places, places), (1, places)):
                for letters in ("", "a", "abcd"):
                    self.assert_error(TooMany("places", 12), alike_sums, way(one), way(other), letters)
        self.assertIs(bool(alike_sums(way(12), way(12), "aA")), True)


def walks_of(web, letter, place, to):
    """The number in the table of the letter."""
    colour = letter.lower()
    if letter == colour:
        return int(web.tied(place, to) == colour)
    return web.degree(place, colour) if place == to else 0


def times(one, other):
    return [[sum(a * b for a, b in zip(row, beside)) for beside in zip(*other)] for row in one]


class Facts(Case):
    def test_letters_put_ahead(self):
        for web in some_webs(61, 20, 6, "ab"):
            for word in words_in("aB", 3):
                for letter in "abAB":
                    table = [[walks_of(web, letter, place, to) for to in range(web.places)] for place in range(web.places)]
                    told = [sum(a * b for a, b in zip(row, column(web, word))) for row in table]
                    self.assertEqual(column(web, letter + word), told)

    def test_two_columns_multiplied(self):
        for web in some_webs(62, 20, 6, "ab"):
            for one, other in itertools.product(words_in("aB", 2), repeat=2):
                told = sum(a * b for a, b in zip(column(web, one), column(web, other)))
                self.assertEqual(sum_of(web, one[::-1] + other), told)
