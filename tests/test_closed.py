"""[8] Closed words: kept words of pairs of tables, and the first word with unlike traces."""

import itertools
import random

from littlewebs.closed import Closed, Trace, alike_traces
from littlewebs.errors import BadWeb, BadWord, TooMany
from littlewebs.papers import Denial, Paper
from littlewebs.webs import Web
from littlewebs.words import trace_of
from tests.helpers import Case, full, mixed_up, plain_kept, ring, some_web, some_webs, way, words_in
from tests.test_led import NO_LETTERS
from tests.test_words import plain_table
from tests.values import ANY

# Pairs of webs with equal traces that are not like.
ALIKE = [
    ("5 : 0a1 0a2 0a3 0a4", "5 : 0a1 0a3 1a2 2a3", "a"),
    ("6 : 0b1 2a3 3a4 3b5", "6 : 0a1 0a2 1b3 2b4", "ab"),
]

# Pairs of webs, letters, and the first word with unlike traces: from early ones to late ones.
UNLIKE = [
    ("4 : 0a1", "5 : 0a1", "a", ""),
    ("4 : 0a1 1a2 2a3", "4 : 0a1 1a2", "A", "A"),
    ("4 : 0a1 1a2 2a3", "4 : 0a1 1a2", "a", "aa"),
    ("5 : 0a1 0a2 0a3 0a4", "5 : 0a1 0a3 1a2 2a3", "aA", "AA"),
    ("5 : 0a1 0a2 0a3 0a4", "5 : 0a1 0a3 1a2 2a3", "Aa", "AA"),
    ("6 : 0a1 0a2 1a2 3a4 3a5 4a5", "6 : 0a1 0a5 1a2 2a3 3a4 4a5", "a", "aaa"),
    ("6 : 0b1 1b2 1a5 2b4", "6 : 0b2 2b3 2a4 3b4", "ab", "abb"),
    ("4 : 0a1 1b2", "4 : 0a1 2b3", "ab", "aabb"),
    ("4 : 0a1 1b2", "4 : 0a1 2b3", "ba", "bbaa"),
    ("6 : 0a3 0b5 1a2 1b3 1a4 2b3", "6 : 0b2 0a3 1b4 2b3 2a4 4a5", "ab", "aaabb"),
    ("6 : 0a2 1a2 1a3 1b4 2a5 3a5", "6 : 0a2 0a3 1b2 2a4 3a4 3a5", "ab", "aaaabb"),
]


def pair_of_tables(one, other, word):
    """All numbers of both tables of the word, by plain products of the tables of its letters."""
    return [worth for web in (one, other) for row in plain_table(web, word) for worth in row]


class Examples(Case):
    def test_of_the_interface(self):
        self.assert_examples("""
>>> joined, apart = Web(4, [(0, 1, "a"), (1, 2, "b")]), Web(4, [(0, 1, "a"), (2, 3, "b")])
>>> [alike_traces(joined, apart, "a") == Closed(("", "a", "aa")), alike_traces(joined, apart, "b").words, alike_traces(joined, apart, "ab").letters]
[True, ('', 'b', 'bb'), 'aabb']
>>> triangles = Web(6, [(0, 1, "a"), (1, 2, "a"), (0, 2, "a"), (3, 4, "a"), (4, 5, "a"), (3, 5, "a")])
>>> hexagon = Web(6, [(0, 1, "a"), (1, 2, "a"), (2, 3, "a"), (3, 4, "a"), (4, 5, "a"), (0, 5, "a")])
>>> [alike_traces(triangles, hexagon, "a").parts, bool(alike_traces(triangles, hexagon, "A")), alike_traces(hexagon, Web(5, []), "a") == Trace("")]
[('aaa',), True, True]
>>> star, square = Web(5, [(0, 1, "a"), (0, 2, "a"), (0, 3, "a"), (0, 4, "a")]), Web(5, [(0, 1, "a"), (1, 2, "a"), (2, 3, "a"), (0, 3, "a")])
>>> [alike_traces(star, square, "a").words, alike_traces(star, square, "aA") == Trace("AA"), alike_traces(star, star, "").words]
[('', 'a', 'aa'), True, ('',)]
""", "closed")

    def test_names_and_files(self):
        self.assert_signatures("closed", {"Closed": "words", "Trace": "letters", "alike_traces": "one other letters"})


class Papers(Case):
    def test_classes(self):
        self.assertEqual([Closed.__bases__, Trace.__bases__], [(Paper,), (Denial,)])

    def test_any_parts(self):
        for value in ANY:
            closed, trace = Closed(value), Trace(value)
            with self.subTest(value=value):
                self.assertEqual([closed.word, bool(closed), trace.word, bool(trace)], ["closed", True, "trace", False])
                for kept in (closed.words, closed.parts[0], trace.letters, trace.parts[0]):
                    if not isinstance(value, (list, tuple)):
                        self.assertIs(kept, value)
                self.assertEqual([len(closed.parts), len(trace.parts)], [1, 1])

    def test_lists_become_tuples(self):
        passed = ["", "a", ["aa"]]
        closed = Closed(words=passed)
        passed[2].append("b")
        self.assertEqual([closed.words, closed.parts], [("", "a", ("aa",)), (("", "a", ("aa",)),)])
        self.assertEqual(Trace(letters=["a"]).letters, ("a",))

    def test_equality(self):
        self.assertIs(Closed(["", "a"]) == Closed(("", "a")), True)
        self.assertIs(Closed(["", "a"]) == Closed(["a", ""]), False)
        self.assertIs(Closed("a") == Trace("a"), False)
        self.assertIs(Trace("a") == Trace("a"), True)
        self.assertIs(Trace("a") == Denial("trace", "a"), False)


class AlikeTraces(Case):
    def assert_closed(self, one, other, letters):
        """That just the kept words are told, either way about, and all words have equal traces."""
        told = plain_kept(letters, lambda word: pair_of_tables(one, other, word))
        with self.subTest(one=str(one), other=str(other), letters=letters):
            self.assertEqual(alike_traces(one, other, letters), Closed(told))
            self.assertEqual(alike_traces(other, one, letters), Closed(told))
            for word in words_in(letters, min(5, len(told[-1]) + 1)):
                self.assertEqual(trace_of(one, word), trace_of(other, word))

    def assert_trace(self, one, other, letters, word):
        with self.subTest(one=str(one), other=str(other), letters=letters):
            self.assertEqual(alike_traces(one, other, letters), Trace(word))
            self.assertEqual(alike_traces(other, one, letters), Trace(word))

    def test_a_web_with_its_places_in_another_order(self):
        chance = random.Random(80)
        for web in some_webs(81, 30, 3, "ab") + some_webs(82, 6, 4, "ab"):
            other = mixed_up(chance, web)
            for letters in ("a", "A", "bA", "ba", "Aa", ""):
                self.assert_closed(web, other, letters)
                self.assert_closed(web, web, letters)

    def test_one_letter_and_six_places(self):
        chance = random.Random(83)
        for web in some_webs(84, 15, 6, "ab") + [way(6), ring(6), full(6), Web(6, [])]:
            for letters in "aB":
                self.assert_closed(web, mixed_up(chance, web), letters)

    def test_many_kept_words(self):
        web = Web.read("6 : 0a1 0b2 1c2 1a3 2d4 3a5 4b5")
        other = web.renamed([3, 5, 0, 1, 4, 2])
        for letters in ("abcd", "dcBA", "aA"):
            words = alike_traces(web, other, letters).words
            self.assertEqual(list(words), sorted(words, key=lambda word: (len(word), [letters.index(sign) for sign in word])))
            self.assertEqual(alike_traces(web, web, letters).words, words)
            self.assertEqual(words[0], "")
            for word in words:
                self.assertTrue(not word or word[:-1] in words and word[1:] in words)
        self.assertEqual(len(alike_traces(web, other, "abcd").words), 36)

    def test_pairs_that_are_alike(self):
        for one, other, letters in ALIKE:
            one, other = Web.read(one), Web.read(other)
            if one.places < 6:
                self.assert_closed(one, other, letters)
            self.assertIs(type(alike_traces(one, other, letters)), Closed)
        told = ("", "a", "b", "aa", "ab", "ba", "bb", "aab", "abb", "baa", "aabb", "baab")
        self.assertEqual(alike_traces(Web.read(ALIKE[1][0]), Web.read(ALIKE[1][1]), "ab"), Closed(told))

    def test_the_kept_words_are_those_of_both_webs(self):
        one, other = Web.read("5 : 0a1 0a2 0a3 0a4"), Web.read("5 : 0a1 0a3 1a2 2a3")
        self.assertEqual(alike_traces(one, other, "a").words, ("", "a", "aa"))
        one, other = Web.read(UNLIKE[5][0]), Web.read(UNLIKE[5][1])
        self.assertEqual(alike_traces(one, one, "A").words, ("",))
        self.assertEqual([alike_traces(web, web, "a").words for web in (one, other)], [("", "a"), ("", "a", "aa", "aaa")])

    def test_pairs_that_part_early_and_late(self):
        for one, other, letters, word in UNLIKE:
            self.assert_trace(Web.read(one), Web.read(other), letters, word)

    def test_the_first_word_of_all(self):
        chance = random.Random(85)
        many = 0
        for _ in range(120):
            places = chance.randint(2, 3)
            one, other = some_web(chance, places, "ab"), some_web(chance, places, "ab")
            letters = chance.choice(("a", "ab", "ba", "aA", "Aa", "BA", "bA"))
            unlike = [word for word in words_in(letters, 6) if trace_of(one, word) != trace_of(other, word)]
            if unlike:
                many += 1
                self.assert_trace(one, other, letters, unlike[0])
            else:
                self.assert_closed(one, other, letters)
        self.assertGreater(many, 40)

    def test_the_first_word_in_webs_of_six_places(self):
        chance = random.Random(86)
        for _ in range(40):
            ties = chance.randint(4, 9)
            pairs = list(itertools.combinations(range(6), 2))
            one, other = [Web(6, [(*pair, chance.choice("ab")) for pair in chance.sample(pairs, ties)]) for _ in range(2)]
            letters = chance.choice(("ab", "ba", "a", "aB", "abA"))
            unlike = [word for word in words_in(letters, 4) if trace_of(one, word) != trace_of(other, word)]
            if unlike:
                self.assert_trace(one, other, letters, unlike[0])

    def test_letters_in_another_order(self):
        web = Web.read("3 : 0a1 1b2")
        self.assertEqual(alike_traces(web, web, "ab").words, ("", "a", "b", "aa", "ab", "ba", "bb", "aab", "abb"))
        self.assertEqual(alike_traces(web, web, "ba").words, ("", "b", "a", "bb", "ba", "ab", "aa", "bba", "baa"))
        self.assertEqual(alike_traces(way(4), way(4), "aA").words[:4], ("", "a", "A", "aa"))
        self.assertEqual(alike_traces(way(4), way(4), "Aa").words[:4], ("", "A", "a", "Aa"))
        one, other = Web.read("4 : 0a1 1a2"), Web.read("4 : 0b1 1b2")
        self.assert_trace(one, other, "ab", "aa")
        self.assert_trace(one, other, "ba", "bb")

    def test_no_letters(self):
        for one, other in zip(some_webs(87, 20, 6), some_webs(88, 20, 6)):
            if one.places == other.places:
                self.assertEqual(alike_traces(one, other, ""), Closed([""]))
            else:
                self.assert_trace(one, other, "", "")

    def test_no_ties(self):
        for places in range(1, 7):
            self.assertEqual(alike_traces(Web(places, []), Web(places, []), "abAB"), Closed([""]))
            self.assertEqual(alike_traces(way(places), full(places), "bcBC"), Closed([""]))

    def test_unlike_many_places(self):
        for one, other in ((1, 2), (6, 5), (3, 6)):
            for letters in ("", "a", "Aa", "abcd"):
                self.assert_trace(way(one), full(other), letters, "")

    def test_kinds_of_answers(self):
        closed, trace = alike_traces(letters="a", other=way(3), one=way(3)), alike_traces(way(3), way(4), "a")
        self.assertEqual([closed.word, bool(closed), closed.parts], ["closed", True, (("", "a", "aa"),)])
        self.assertEqual([trace.word, bool(trace), trace.parts], ["trace", False, ("",)])
        self.assertIs(type(closed.words), tuple)
        self.assertIs(type(trace.letters), str)
        self.assertEqual(closed, alike_traces(way(3), way(3), "a"))

    def test_errors(self):
        for value in ANY + ("2 : 0a1",):
            with self.subTest(value=value):
                self.assert_error(BadWeb("one"), alike_traces, value, way(2), "a")
                self.assert_error(BadWeb("one"), alike_traces, value, value, value)
                self.assert_error(BadWeb("one"), alike_traces, letters=None, other=None, one=value)
                self.assert_error(BadWeb("other"), alike_traces, way(2), value, "a")
                self.assert_error(BadWeb("other"), alike_traces, way(7), value, "aa")
                self.assert_error(BadWeb("other"), alike_traces, letters=None, other=value, one=way(24))
        for value in NO_LETTERS:
            with self.subTest(value=value):
                self.assert_error(BadWord("letters"), alike_traces, way(2), way(3), value)
                self.assert_error(BadWord("letters"), alike_traces, letters=value, other=way(7), one=way(24))

    def test_too_many_places(self):
        for places in (7, 8, 24):
            for one, other in ((places, 6), (6, places), (places, places), (1, places)):
                for letters in ("", "a", "abcd"):
                    self.assert_error(TooMany("places", 6), alike_traces, way(one), way(other), letters)
        self.assertIs(bool(alike_traces(way(6), way(6), "aA")), True)


class Facts(Case):
    def test_words_read_round_and_backwards(self):
        for web in some_webs(89, 10, 5, "ab"):
            for word in words_in("abA", 4):
                self.assertEqual(len({trace_of(web, word[at:] + word[:at]) for at in range(len(word) + 1)}), 1)
                self.assertEqual(trace_of(web, word), trace_of(web, word[::-1]))

    def test_each_letter_by_itself_and_both_together(self):
        one, other = Web.read("4 : 0a1 1b2"), Web.read("4 : 0a1 2b3")
        self.assertEqual([alike_traces(one, other, letters).word for letters in ("a", "b", "ab")], ["closed", "closed", "trace"])
