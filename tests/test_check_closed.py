"""[8] Which papers on the traces of all words are right, for values of all kinds."""

import random

from littlewebs.check_closed import shows_traces
from littlewebs.closed import Closed, Trace, alike_traces
from littlewebs.errors import BadWeb, BadWord, TooMany
from littlewebs.led import Led, Unlike
from littlewebs.papers import Denial, Paper
from littlewebs.webs import Web
from littlewebs.words import trace_of
from tests.helpers import Case, full, mixed_up, ring, some_web, some_webs, way, words_in
from tests.test_closed import ALIKE, UNLIKE
from tests.test_led import NO_LETTERS
from tests.values import ANY, Alike

# Two webs of which all words of two letters have equal traces, and twelve words are kept.
ONE, OTHER = Web.read(ALIKE[1][0]), Web.read(ALIKE[1][1])


class LikeClosed(Closed):
    """A class below Closed: what is made by it is not made by calling Closed."""


class LikeTrace(Trace):
    """Likewise."""


class Examples(Case):
    def test_of_the_interface(self):
        self.assert_examples("""
>>> joined, apart = Web(4, [(0, 1, "a"), (1, 2, "b")]), Web(4, [(0, 1, "a"), (2, 3, "b")])
>>> triangles = Web(6, [(0, 1, "a"), (1, 2, "a"), (0, 2, "a"), (3, 4, "a"), (4, 5, "a"), (3, 5, "a")])
>>> hexagon = Web(6, [(0, 1, "a"), (1, 2, "a"), (2, 3, "a"), (3, 4, "a"), (4, 5, "a"), (0, 5, "a")])
>>> star, square = Web(5, [(0, 1, "a"), (0, 2, "a"), (0, 3, "a"), (0, 4, "a")]), Web(5, [(0, 1, "a"), (1, 2, "a"), (2, 3, "a"), (0, 3, "a")])
>>> [shows_traces(joined, apart, "ab", Trace("bbaa")), shows_traces(joined, apart, "a", Trace("aabb")), shows_traces(star, square, "aA", Trace("aAAa"))]
[True, False, True]
>>> [shows_traces(star, square, "a", Closed(["", "a", "aa"])), shows_traces(star, square, "a", Closed(["", "a", "aa", "aaa"])), shows_traces(triangles, hexagon, "a", Closed(["", "a", "aa"]))]
[True, False, False]
""", "closed", "check_closed")

    def test_names_and_files(self):
        self.assert_signatures("check_closed", {"shows_traces": "one other letters value"})


class ShowsClosed(Case):
    def test_what_is_told(self):
        for one, other, letters in ALIKE:
            one, other = Web.read(one), Web.read(other)
            for some in (letters, letters[::-1], letters[:1], ""):
                self.assertIs(shows_traces(one, other, some, alike_traces(one, other, some)), True)
                self.assertIs(shows_traces(other, one, some, alike_traces(one, other, some)), True)
        chance = random.Random(200)
        for web in some_webs(201, 25, 6):
            other = mixed_up(chance, web)
            for letters in ("", "a", "bA", "abcd", "DCBA"):
                self.assertIs(shows_traces(web, other, letters, alike_traces(web, other, letters)), True)

    def test_lists_and_tuples(self):
        words = alike_traces(ONE, OTHER, "ab").words
        self.assertEqual(len(words), 12)
        for told in (words, list(words)):
            self.assertIs(shows_traces(ONE, OTHER, "ab", Closed(told)), True)

    def test_words_left_out_put_in_exchanged_and_doubled(self):
        words = list(alike_traces(ONE, OTHER, "ab").words)
        wrong = [[], words[::-1], words * 2, words + [""], [words], ["".join(words)], "".join(words), words[0], set(words)]
        for at in range(len(words)):
            wrong.append(words[:at] + words[at + 1:])
            wrong.append(words[:at + 1] + words[at:])
            wrong.append(words[:at] + [words[at] + "a"] + words[at + 1:])
            wrong.append(words[:at] + [words[at].upper() or "c"] + words[at + 1:])
            wrong.append(words[:at] + [[words[at]]] + words[at + 1:])
            for put in ("bbb", "aaa", "abab", "c", "A"):
                wrong.append(words[:at] + [put] + words[at:])
            for behind in range(at):
                changed = list(words)
                changed[at], changed[behind] = changed[behind], changed[at]
                wrong.append(changed)
        for told in wrong:
            with self.subTest(told=told):
                self.assertIs(shows_traces(ONE, OTHER, "ab", Closed(told)), False)

    def test_what_is_no_word(self):
        for value in ANY + ("x", "aX", "a" * 81, " ", "\u0430", b"a", ["a"], ("a",), [""]):
            for told in ([value, "a", "aa"], ["", value, "aa"], ["", "a", "aa", value], ["", "a", value], value, [value]):
                # Some of these values stand in a right place.
                if not isinstance(value, str) or value not in ("", "a"):
                    with self.subTest(told=told):
                        self.assertIs(shows_traces(way(3), way(3), "a", Closed(told)), False)
        self.assertIs(shows_traces(way(3), way(3), "a", Closed(["", "a", "aa"])), True)

    def test_other_letters(self):
        closed = alike_traces(ONE, OTHER, "ab")
        for letters in ("a", "b", "ba", "abA", "c", "", "AB"):
            self.assertIs(shows_traces(ONE, OTHER, letters, closed), False)
        self.assertIs(shows_traces(ONE, OTHER, "ab", alike_traces(ONE, OTHER, "ba")), False)
        self.assertIs(shows_traces(way(3), way(3), "", Closed([""])), True)
        # A letter without ties has a table of noughts.
        self.assertIs(shows_traces(way(3), way(3), "b", Closed([""])), True)
        self.assertIs(shows_traces(way(3), way(3), "b", Closed(["", "b"])), False)
        self.assertIs(shows_traces(way(3), way(3), "b", Closed([])), False)

    def test_webs_that_are_not_alike(self):
        for one, other, letters, _ in UNLIKE:
            one, other = Web.read(one), Web.read(other)
            for web in (one, other):
                kept = alike_traces(web, web, letters)
                self.assertIs(shows_traces(web, web, letters, kept), True)
                self.assertIs(shows_traces(one, other, letters, kept), False)


class ShowsTrace(Case):
    def test_any_word_of_unlike_traces(self):
        chance = random.Random(202)
        many = [0, 0]
        for _ in range(60):
            places = chance.randint(1, 5)
            one, other = some_web(chance, places, "ab"), some_web(chance, chance.choice((places, 3)), "ab")
            letters = chance.choice(("a", "ab", "Ba", "A", ""))
            for word in words_in("abAB", 3):
                told = all(letter in letters for letter in word) and trace_of(one, word) != trace_of(other, word)
                many[told] += 1
                self.assertIs(shows_traces(one, other, letters, Trace(word)), told)
        self.assertGreater(min(many), 100)

    def test_what_is_told(self):
        for one, other, letters, word in UNLIKE:
            one, other = Web.read(one), Web.read(other)
            self.assertIs(shows_traces(one, other, letters, alike_traces(one, other, letters)), True)
            self.assertIs(shows_traces(other, one, letters, Trace(word)), True)
            self.assertIs(shows_traces(one, one, letters, Trace(word)), False)

    def test_long_words(self):
        one, other = ring(5), full(5)
        for word in ("a" * 80, "A" * 80, "aA" * 40):
            self.assertIs(shows_traces(one, other, "aA", Trace(word)), True)
            self.assertIs(shows_traces(one, one, "aA", Trace(word)), False)
            self.assertIs(shows_traces(one, other, "aA", Trace(word + "a")), False)
        for word in ("a" * 81, "aA" * 41, "a" * 20000):
            self.assertIs(shows_traces(one, other, "aA", Trace(word)), False)

    def test_other_letters(self):
        one, other = ring(4), Web.read("4 : 0a1 2b3")
        for letters, word in (("a", "AA"), ("A", "aa"), ("b", "aa"), ("", "aa"), ("a", "aA"), ("bcdA", "aA"), ("a", "aab")):
            self.assertIs(shows_traces(one, other, letters, Trace(word)), False)
            own = "".join(sorted(set(word)))
            self.assertIs(shows_traces(one, other, own, Trace(word)), trace_of(one, word) != trace_of(other, word))
        self.assertIs(shows_traces(one, other, "Aa", Trace("AA")), True)

    def test_what_is_no_word(self):
        one, other = way(4), way(5)
        self.assertIs(shows_traces(one, other, "a", Trace("")), True)
        self.assertIs(shows_traces(one, other, "a", Trace("a")), False)
        self.assertIs(shows_traces(one, other, "a", Trace("aa")), True)
        for value in ANY + (["aa"], ("aa",), [], "x", "aax", " ", "\u0430\u0430", b"aa", {"aa": 1}, {"aa"}, [[]]):
            if not isinstance(value, str) or value not in ("", "a"):
                with self.subTest(value=value):
                    self.assertIs(shows_traces(one, other, "a", Trace(value)), False)


class OtherValues(Case):
    def test_values_of_all_kinds(self):
        for value in ANY + ("a", "", Closed, Trace, [Trace("")], (Closed([""]),), {"letters": ""}, way(2)):
            with self.subTest(value=value):
                self.assertIs(shows_traces(way(2), way(3), "a", value), False)
                self.assertIs(shows_traces(way(2), way(2), "a", value), False)

    def test_papers_of_other_classes(self):
        words = ["", "a"]
        self.assertIs(shows_traces(way(2), way(2), "a", Closed(words)), True)
        for value in (
            Paper("closed", words), Denial("closed", words), Led(words), Unlike(words), Trace(words), LikeClosed(words), words,
            tuple(words), Paper("closed"), Closed(Closed(words)), Closed([words]),
        ):
            self.assertIs(shows_traces(way(2), way(2), "a", value), False)
        self.assertIs(shows_traces(way(2), way(3), "a", Trace("")), True)
        for value in (
            Denial("trace", ""), Paper("trace", ""), Led(""), Closed(""), Unlike(""), LikeTrace(""), "", Trace(Trace("")),
            Trace([""]),
        ):
            self.assertIs(shows_traces(way(2), way(3), "a", value), False)

    def test_parts_of_all_kinds(self):
        for value in ANY:
            for told in (value, [value], ["", "a", value], [value, value, value]):
                with self.subTest(told=told):
                    self.assertIs(shows_traces(way(3), way(3), "aA", Closed(told)), False)
                    self.assertIs(shows_traces(way(3), way(3), "aA", Trace(told)), False)

    def test_what_equals_everything(self):
        for at in range(3):
            told = ["", "a", "aa"]
            told[at] = Alike()
            self.assertIs(shows_traces(way(3), way(3), "a", Closed(told)), False)
        self.assertIs(shows_traces(way(3), way(3), "a", Closed(Alike())), False)
        self.assertIs(shows_traces(way(3), way(4), "a", Trace(Alike())), False)
        self.assertIs(shows_traces(way(3), way(3), "a", Alike()), False)

    def test_great_values(self):
        deep = "a"
        for _ in range(30):
            deep = [deep]
        for value in (deep, [""] * 9000, ["a" * 80] * 9000, list(range(9000)), "a" * 20000, [[]] * 9000, 10 ** 399):
            for kind in (Led, Unlike, Closed, Trace):
                self.assertIs(shows_traces(way(3), way(3), "aA", kind(value)), False)


class Wrong(Case):
    def test_errors(self):
        right = Trace("")
        for value in ANY + ("2 : 0a1",):
            with self.subTest(value=value):
                self.assert_error(BadWeb("one"), shows_traces, value, way(3), "a", right)
                self.assert_error(BadWeb("one"), shows_traces, value, value, value, value)
                self.assert_error(BadWeb("one"), shows_traces, value=None, letters=None, other=None, one=value)
                self.assert_error(BadWeb("other"), shows_traces, way(2), value, "a", right)
                self.assert_error(BadWeb("other"), shows_traces, way(7), value, "aa", right)
                self.assert_error(BadWeb("other"), shows_traces, value=None, letters=None, other=value, one=way(24))
        for value in NO_LETTERS:
            with self.subTest(value=value):
                self.assert_error(BadWord("letters"), shows_traces, way(2), way(3), value, right)
                self.assert_error(BadWord("letters"), shows_traces, value=right, letters=value, other=way(7), one=way(24))
                self.assert_error(BadWord("letters"), shows_traces, way(2), way(3), value, None)

    def test_six_places_are_let_and_seven_are_not(self):
        for one, other in ((7, 6), (6, 7), (7, 7), (24, 1), (1, 24)):
            for value in (Trace(""), Closed([""]), None, 1):
                self.assert_error(TooMany("places", 6), shows_traces, way(one), way(other), "a", value)
        self.assertIs(shows_traces(way(6), way(5), "a", Trace("")), True)
        self.assertIs(shows_traces(way(6), way(6), "aA", alike_traces(way(6), way(6), "aA")), True)

    def test_by_name(self):
        self.assertIs(shows_traces(value=Trace("aaa"), letters="a", other=way(3), one=ring(3)), True)
