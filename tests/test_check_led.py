"""[7] Which papers on the sums of all words are right, for values of all kinds."""

import random
from fractions import Fraction

from littlewebs.check_led import shows_sums
from littlewebs.closed import Closed, Trace
from littlewebs.errors import BadWeb, BadWord, TooMany
from littlewebs.led import Led, Unlike, alike_sums
from littlewebs.papers import Denial, Paper
from littlewebs.webs import Web
from littlewebs.words import sum_of
from tests.helpers import Case, full, lines, mixed_up, ring, some_web, some_webs, way, words_in
from tests.test_led import ALIKE, NO_LETTERS, UNLIKE, times, walks_of
from tests.values import ANY

TWO, SIX = Web.read(ALIKE[0][0]), Web.read(ALIKE[0][1])
ONE, OTHER = Web.read(ALIKE[1][0]), Web.read(ALIKE[1][1])


class LikeLed(Led):
    """A class below Led: what is made by it is not made by calling Led."""


class LikeUnlike(Unlike):
    """Likewise."""


def pairs(table):
    return [[Fraction(worth).as_integer_ratio() for worth in row] for row in table]


def worths(table):
    return [[Fraction(*worth) for worth in row] for row in table]


def plain_leads(one, other, letters, table):
    """Whether a table of Fractions leads, by plain products of tables."""
    if [len(row) for row in table] != [other.places] * one.places:
        return False
    if [sum(row) for row in table] != [1] * one.places or [sum(row) for row in zip(*table)] != [1] * other.places:
        return False
    for letter in letters:
        ahead = [[walks_of(one, letter, place, to) for to in range(one.places)] for place in range(one.places)]
        behind = [[walks_of(other, letter, place, to) for to in range(other.places)] for place in range(other.places)]
        if times(ahead, table) != times(table, behind):
            return False
    return True


def unit(order):
    """The table by which a web is led to the one that is renamed by the order."""
    return [[int(order[column] == row) for column in range(len(order))] for row in range(len(order))]


class Examples(Case):
    def test_of_the_interface(self):
        self.assert_examples("""
>>> two, six = Web.read("6 : 0a1 0a2 1a2 3a4 3a5 4a5"), Web.read("6 : 0a1 0a5 1a2 2a3 3a4 4a5")
>>> one, other = Web.read("7 : 0a3 0a4 1a2 1a4 2a3 2a6 3a5 3a6 5a6"), Web.read("7 : 0a2 0a3 0a5 1a4 1a5 1a6 2a4 2a6 4a6")
>>> sixth, plain = [[(1, 6)] * 6] * 6, [[(int(row == place), 1) for place in range(6)] for row in range(6)]
>>> [shows_sums(two, six, "aA", Led(sixth)), shows_sums(two, two, "aA", Led(plain)), shows_sums(two, six, "aA", Led(plain)), shows_sums(two, six, "a", Led([[(2, 12)] * 6] * 6))]
[True, True, False, False]
>>> [shows_sums(one, other, "aA", Unlike(word)) for word in ("AAA", "aAa", "aaaa", "")]
[True, True, False, False]
""", "led", "check_led")

    def test_names_and_files(self):
        self.assert_signatures("check_led", {"shows_sums": "one other letters value"})


class ShowsLed(Case):
    def assert_shown(self, one, other, letters, table, told=None):
        """That the Led of a table of Fractions is shown just if it leads."""
        leads = plain_leads(one, other, letters, table)
        if told is not None:
            self.assertIs(leads, told)
        self.assertIs(shows_sums(one, other, letters, Led(pairs(table))), leads)
        return leads

    def test_what_is_told(self):
        for one, other, letters in ALIKE:
            one, other = Web.read(one), Web.read(other)
            for some in (letters, letters[::-1], letters[:1], ""):
                self.assertIs(shows_sums(one, other, some, alike_sums(one, other, some)), True)
                self.assertIs(shows_sums(other, one, some, alike_sums(other, one, some)), True)
        chance = random.Random(70)
        for web in some_webs(71, 40, 12):
            other = mixed_up(chance, web)
            for letters in ("", "a", "bA", "abcd", "DCBA"):
                self.assertIs(shows_sums(web, other, letters, alike_sums(web, other, letters)), True)

    def test_a_table_for_other_letters(self):
        led = alike_sums(ONE, OTHER, "a")
        self.assertIs(shows_sums(ONE, OTHER, "a", led), True)
        self.assertIs(shows_sums(ONE, OTHER, "", led), True)
        for letters in ("aA", "Aa", "A"):
            self.assertIs(shows_sums(ONE, OTHER, letters, led), False)
        self.assertIs(shows_sums(ONE, OTHER, "abcd", led), True)
        self.assertIs(shows_sums(ONE, OTHER, "bA", led), False)

    def test_other_tables_that_lead(self):
        chance = random.Random(72)
        for _ in range(40):
            web = some_web(chance, chance.randint(2, 7), "ab")
            order = list(range(web.places))
            chance.shuffle(order)
            other, table = web.renamed(order), unit(order)
            for letters in ("a", "bA", "ABab", ""):
                self.assert_shown(web, other, letters, table, True)
                told = worths(alike_sums(web, other, letters).table)
                for part in (Fraction(1, 2), Fraction(1, 3), Fraction(-2, 7), Fraction(10 ** 99)):
                    mixed = [[part * a + (1 - part) * b for a, b in zip(*rows)] for rows in zip(table, told)]
                    self.assert_shown(web, other, letters, mixed, True)

    def test_the_other_way_about(self):
        # The table leads renamed places back only with rows for columns.
        web = Web.read("4 : 0a1 1a2 2b3")
        order = [2, 0, 3, 1]
        other = web.renamed(order)
        self.assert_shown(web, other, "ab", unit(order), True)
        self.assert_shown(other, web, "ab", unit(order), False)
        self.assert_shown(other, web, "ab", [list(row) for row in zip(*unit(order))], True)

    def test_one_number_changed(self):
        for one, other, letters in ALIKE[:2]:
            one, other = Web.read(one), Web.read(other)
            told = worths(alike_sums(one, other, letters).table)
            for row in range(one.places):
                for at in range(other.places):
                    for more in (Fraction(1), Fraction(-1, 10 ** 50)):
                        table = [list(worth) for worth in told]
                        table[row][at] += more
                        self.assert_shown(one, other, letters, table, False)

    def test_rows_and_columns_that_still_add_up(self):
        chance = random.Random(73)
        right = 0
        for _ in range(300):
            one, other, letters = chance.choice(ALIKE[:3])
            one, other = Web.read(one), Web.read(other)
            table = worths(alike_sums(one, other, letters).table)
            rows, columns = chance.sample(range(one.places), 2), chance.sample(range(other.places), 2)
            for row, more in zip(rows, (1, -1)):
                for at, sign in zip(columns, (1, -1)):
                    table[row][at] += Fraction(more * sign, 5)
            right += self.assert_shown(one, other, chance.choice((letters, "a", "b")), table)
        self.assertGreater(right, 50)
        self.assertLess(right, 250)

    def test_rows_that_add_up_and_columns_that_do_not(self):
        third = Fraction(1, 3)
        self.assert_shown(Web(3, []), Web(3, []), "a", [[1, 0, 0]] * 3, False)
        self.assert_shown(Web(3, []), Web(3, []), "", [[1] * 3, [0] * 3, [0] * 3], False)
        self.assert_shown(Web(3, []), Web(3, []), "a", [[third] * 3] * 3, True)
        self.assert_shown(TWO, SIX, "aA", [[Fraction(1, 3)] * 6] * 6, False)
        self.assert_shown(TWO, SIX, "aA", [[Fraction(0)] * 6] * 6, False)
        # Rows and columns add up to 2, or to 0, and letters are as they must be.
        plain = unit(range(6))
        self.assert_shown(TWO, TWO, "aA", [[2 * worth for worth in row] for row in plain], False)
        self.assert_shown(TWO, TWO, "aA", [[a - Fraction(1, 6) for a in row] for row in plain], False)

    def test_each_letter_counts(self):
        one, other = Web.read("4 : 0a1 2b3"), Web.read("4 : 0a1 1b2")
        quarter = [[Fraction(1, 4)] * 4] * 4
        for letters in ("a", "b", "A", "B", "ab", "ca", "cb", "cA", "Ba"):
            self.assert_shown(one, other, letters, quarter, False)
        for letters in ("", "c", "cd", "cdCD"):
            self.assert_shown(one, other, letters, quarter, True)
        half = [[Fraction(1, 2), Fraction(1, 2), 0], [Fraction(1, 2), Fraction(1, 2), 0], [0, 0, 1]]
        web = Web.read("3 : 0a1 1b2")
        for letters, told in (("a", True), ("A", True), ("aA", True), ("b", False), ("B", False), ("ab", False), ("aB", False)):
            self.assert_shown(web, web, letters, half, told)

    def test_rows_left_out_and_exchanged(self):
        led = alike_sums(ONE, OTHER, "a").table
        wrong = [
            led[1:], led[:-1], led + led[:1], [row[1:] for row in led], [row[:-1] for row in led], [row + row[:1] for row in led],
            led[1:2] + led[:1] + led[2:], [row[1:2] + row[:1] + row[2:] for row in led], led[:-1] + (led[-1][:-1],),
            led[:-1] + (led[-1] + ((0, 1),),), (led,), led[0], [], [[]], [()] * 7, [[]] * 7, [[(1, 1)]], [led] * 7,
        ]
        for table in wrong:
            with self.subTest(table=table):
                self.assertIs(shows_sums(ONE, OTHER, "a", Led(table)), False)
        self.assertIs(shows_sums(ONE, OTHER, "a", Led([list(row) for row in led])), True)

    def test_webs_of_unlike_many_places(self):
        for one, other in ((2, 3), (3, 2), (1, 12)):
            for table in ([[Fraction(1, other)] * other] * one, [[Fraction(1, one)] * other] * one, unit(range(one))):
                for letters in ("", "a", "bA"):
                    self.assert_shown(Web(one, []), Web(other, []), letters, table, False)
                    self.assert_shown(way(one), full(other), letters, table, False)

    def test_what_is_no_fraction(self):
        third = [[(1, 3)] * 3 for _ in range(3)]
        self.assertIs(shows_sums(way(3), way(3), "b", Led(third)), True)
        wrong = ANY + (
            (2, 6), (-1, -3), (1, 3, 1), (1,), ("1", "3"), "1/3", (True, 3), (1.0, 3), (1, 3.0), 1, 0, True, 1 / 3,
            Fraction(1, 3), ((1, 3),), [(1, 3)], None,
        )
        for value in wrong:
            for row in range(3):
                table = [list(worth) for worth in third]
                table[row][2 - row] = value
                with self.subTest(value=value):
                    self.assertIs(shows_sums(way(3), way(3), "b", Led(table)), False)
        for table in (ANY[0], [1, 2, 3], ["abc"] * 3, ["a", "b", "c"], [third, third, third], third + [None], [third[0]] * 2 + [{}]):
            self.assertIs(shows_sums(way(3), way(3), "b", Led(table)), False)

    def test_truths_for_numbers(self):
        self.assertIs(shows_sums(Web(1, []), Web(1, []), "a", Led([[(1, 1)]])), True)
        for top, bottom in ((True, 1), (1, True), (True, True)):
            self.assertIs(shows_sums(Web(1, []), Web(1, []), "a", Led([[(top, bottom)]])), False)
        table = [[(1, 1), (False, 1)], [(0, 1), (1, 1)]]
        self.assertIs(shows_sums(way(2), way(2), "a", Led(table)), False)

    def test_great_numbers(self):
        chance = random.Random(74)
        web = lines(12, (1, 2))
        table = [[Fraction(1, 12)] * 12 for _ in range(12)]
        for row in range(0, 12, 2):
            for at in range(0, 12, 2):
                more = Fraction(chance.randrange(1, 10 ** 150), chance.randrange(10 ** 199, 10 ** 200))
                for r, c, sign in ((0, 0, 1), (1, 0, -1), (0, 1, -1), (1, 1, 1)):
                    table[row + r][at + c] += sign * more
        self.assert_shown(web, web, "abcd", table, False)
        self.assert_shown(web, web, "bcdB", table, True)
        table = [[(chance.randrange(1, 10 ** 399) * 2 + 1, 2 ** chance.randrange(1, 1300)) for _ in range(12)] for _ in range(12)]
        self.assertIs(shows_sums(web, web, "abcd", Led(table)), False)
        self.assertIs(shows_sums(web, web, "abcd", Led([table[0] * 100] * 1)), False)


class ShowsUnlike(Case):
    def test_any_word_of_unlike_sums(self):
        chance = random.Random(75)
        many = [0, 0]
        for _ in range(60):
            places = chance.randint(1, 5)
            one, other = some_web(chance, places, "ab"), some_web(chance, chance.choice((places, 3)), "ab")
            letters = chance.choice(("a", "ab", "Ba", "A", ""))
            for word in words_in("abAB", 3):
                told = all(letter in letters for letter in word) and sum_of(one, word) != sum_of(other, word)
                many[told] += 1
                self.assertIs(shows_sums(one, other, letters, Unlike(word)), told)
        self.assertGreater(min(many), 200)

    def test_what_is_told(self):
        for one, other, letters, word in UNLIKE:
            one, other = Web.read(one), Web.read(other)
            self.assertIs(shows_sums(one, other, letters, alike_sums(one, other, letters)), True)
            self.assertIs(shows_sums(one, other, letters, Unlike(word)), True)
            self.assertIs(shows_sums(other, one, letters, Unlike(word)), True)
            self.assertIs(shows_sums(one, one, letters, Unlike(word)), False)

    def test_long_words(self):
        one, other = ring(5), full(5)
        for word in ("a" * 80, "A" * 80, "aA" * 40):
            self.assertIs(shows_sums(one, other, "aA", Unlike(word)), True)
            self.assertIs(shows_sums(one, other, "aA", Unlike(word + "a")), False)
            self.assertIs(shows_sums(one, one, "aA", Unlike(word)), False)
        for word in ("a" * 81, "aA" * 41, "a" * 20000):
            self.assertIs(shows_sums(one, other, "aA", Unlike(word)), False)

    def test_other_letters(self):
        one, other = way(4), Web.read("4 : 0a1 1a2 1a3")
        self.assertIs(shows_sums(one, other, "a", Unlike("aa")), True)
        self.assertIs(shows_sums(one, other, "A", Unlike("AA")), True)
        self.assertIs(shows_sums(one, other, "Aa", Unlike("aA")), True)
        for letters, word in (("a", "AA"), ("A", "aa"), ("b", "aa"), ("", "aa"), ("a", "aA"), ("bcdA", "aA"), ("a", "aab")):
            self.assertIs(shows_sums(one, other, letters, Unlike(word)), False)

    def test_what_is_no_word(self):
        one, other = way(4), way(5)
        self.assertIs(shows_sums(one, other, "a", Unlike("")), True)
        self.assertIs(shows_sums(one, other, "a", Unlike("a")), True)
        for value in ANY + (["a"], ("a",), [], (), "x", "ax", " ", "\u0430", b"a", 0, None, {"a": 1}, {"a"}, [[]]):
            if not isinstance(value, str) or value not in ("", "a"):
                with self.subTest(value=value):
                    self.assertIs(shows_sums(one, other, "a", Unlike(value)), False)


class OtherValues(Case):
    def test_values_of_all_kinds(self):
        for value in ANY + ("a", "", Led, Unlike, [Unlike("")], (Led([[(1, 1)]]),), {"letters": ""}, way(2)):
            with self.subTest(value=value):
                self.assertIs(shows_sums(way(2), way(3), "a", value), False)
                self.assertIs(shows_sums(way(2), way(2), "a", value), False)

    def test_papers_of_other_classes(self):
        table = [[(1, 2)] * 2] * 2
        self.assertIs(shows_sums(way(2), way(2), "a", Led(table)), True)
        for value in (
            Paper("led", table), Denial("led", table), Unlike(table), Closed(table), Trace(table), LikeLed(table), table,
            tuple(table), Paper("led"), Led(Led(table)), Led([table]),
        ):
            self.assertIs(shows_sums(way(2), way(2), "a", value), False)
        self.assertIs(shows_sums(way(2), way(3), "a", Unlike("")), True)
        for value in (
            Denial("unlike", ""), Paper("unlike", ""), Led(""), Closed(""), Trace(""), LikeUnlike(""), "", Unlike(Unlike("")),
            Unlike([""]),
        ):
            self.assertIs(shows_sums(way(2), way(3), "a", value), False)

    def test_parts_of_all_kinds(self):
        for value in ANY:
            with self.subTest(value=value):
                self.assertIs(shows_sums(way(3), way(3), "aA", Led(value)), False)
                self.assertIs(shows_sums(way(3), way(3), "aA", Led([value] * 3)), False)
                self.assertIs(shows_sums(way(3), way(3), "aA", Led([[value] * 3] * 3)), False)
                self.assertIs(shows_sums(way(3), way(3), "aA", Led([[(value, value)] * 3] * 3)), False)
                self.assertIs(shows_sums(way(3), way(3), "aA", Unlike(value)), False)

    def test_great_values(self):
        deep = "a"
        for _ in range(30):
            deep = [deep]
        for value in (deep, [[(1, 1)] * 30] * 100, list(range(9000)), "a" * 20000, [[]] * 9000, 10 ** 399):
            for kind in (Led, Unlike, Closed, Trace):
                self.assertIs(shows_sums(way(3), way(3), "aA", kind(value)), False)


class Wrong(Case):
    def test_errors(self):
        right = Unlike("")
        for value in ANY + ("2 : 0a1",):
            with self.subTest(value=value):
                self.assert_error(BadWeb("one"), shows_sums, value, way(3), "a", right)
                self.assert_error(BadWeb("one"), shows_sums, value, value, value, value)
                self.assert_error(BadWeb("one"), shows_sums, value=None, letters=None, other=None, one=value)
                self.assert_error(BadWeb("other"), shows_sums, way(2), value, "a", right)
                self.assert_error(BadWeb("other"), shows_sums, way(13), value, "aa", right)
                self.assert_error(BadWeb("other"), shows_sums, value=None, letters=None, other=value, one=way(24))
        for value in NO_LETTERS:
            with self.subTest(value=value):
                self.assert_error(BadWord("letters"), shows_sums, way(2), way(3), value, right)
                self.assert_error(BadWord("letters"), shows_sums, value=right, letters=value, other=way(13), one=way(24))
                self.assert_error(BadWord("letters"), shows_sums, way(2), way(3), value, None)

    def test_too_many_places(self):
        for one, other in ((13, 12), (12, 13), (13, 13), (24, 1), (1, 24)):
            for value in (Unlike(""), Led([[(1, 1)]]), None, 1):
                self.assert_error(TooMany("places", 12), shows_sums, way(one), way(other), "a", value)
        self.assertIs(shows_sums(way(12), way(11), "a", Unlike("")), True)
        self.assertIs(shows_sums(way(12), way(12), "aA", alike_sums(way(12), way(12), "aA")), True)

    def test_by_name(self):
        self.assertIs(shows_sums(value=Unlike("a"), letters="a", other=way(3), one=ring(3)), True)
