"""[4] Webs, and [2]: their texts, values that are copied, which error comes first."""

import itertools
import random
import re

from littlewebs.errors import BadNumber, BadText, BadWeb, Misfit, NoPlace, TooMany, Twice, WebError
from littlewebs.webs import Web
from tests.helpers import COLOURS, Case, full, lines, mixed_up, ring, some_web, some_webs, way
from tests.values import ANY, INTEGERS, OTHERS, ROWS, TRUTHS, Alike

GREAT = 10 ** 399

NO_COLOURS = TRUTHS + INTEGERS + ROWS + tuple(value for value in OTHERS if value != "a") + (
    "A", "B", "C", "D", "e", "aa", "ab", "abcd", " a", "a ", "\u0430", b"a", ("a",), ["a"], Alike(),
)

# What is no place of any web; 0 to 23 may be.
NO_PLACES = TRUTHS + OTHERS + ROWS + (-1, -2, -24, 24, 25, GREAT, -GREAT, 0.0, "0", (0,), [0], Alike())

WEBS = some_webs(4, 60, 24) + some_webs(5, 60, 7) + [Web(1, []), Web(24, []), full(24), full(7, "d"), ring(24), way(24)]


class Examples(Case):
    def test_of_the_interface(self):
        self.assert_examples("""
>>> web = Web(4, [(1, 0, "a"), [1, 2, "a"], (3, 2, "b")])
>>> [str(web), web.ties[2], web.tied(2, 1), web.tied(0, 2), web.neighbours(1, "a"), web.degree(2, "b"), Web.read(str(web)) == web]
['4 : 0a1 1a2 2b3', (2, 3, 'b'), 'a', None, (0, 2), 1, True]
>>> [str(web.renamed([3, 2, 1, 0])), str(web.plain()), web.is_joined(), web.is_tree()]
['4 : 0b1 1a2 2a3', '4 : 0a1 0a2 1b3', True, True]
>>> two = web.beside(Web(2, [(0, 1, "c")]))
>>> [str(two), two.parts, two.is_joined(), str(Web(3, []))]
['6 : 0a1 1a2 2b3 4c5', ((0, 1, 2, 3), (4, 5)), False, '3 :']
>>> triangle = Web.read("3 : 0a1 0a2 1a2")
>>> [str(triangle.opposite("a")), str(Web.read("4 : 0a1 1a2 2a3").opposite("a")), triangle.is_tree(), Web(1, []).is_tree()]
['3 :', '4 : 0a2 0a3 1a3', False, True]
>>> web.opposite("a")
raises Misfit('colours')
>>> Web(3, [(0, 1, "a"), (1, 0, "b")])
raises Twice((0, 1))
>>> web.tied(0, 4)
raises NoPlace(4)
>>> Web.read("3 : 1a2 0a1")
raises BadText(0, 3)
""")

    def test_names_and_files(self):
        self.assert_signatures("webs", {"Web": "places ties"})
        told = {
            "tied": "self one other", "neighbours": "self place colour", "degree": "self place colour",
            "renamed": "self order", "beside": "self other", "opposite": "self colour", "is_joined": "self",
            "is_tree": "self", "plain": "self", "__init__": "self places ties", "__eq__": "self other", "__str__": "self",
        }
        for name, parameters in told.items():
            self.assertIn(name, vars(Web))
            code = vars(Web)[name].__code__
            self.assertEqual(" ".join(code.co_varnames[:code.co_argcount]), parameters)
        self.assertIsInstance(vars(Web)["read"], (staticmethod, classmethod))


class Making(Case):
    def test_places(self):
        for places in range(1, 25):
            self.assertEqual(Web(places, []).places, places)
            self.assertEqual(Web(places, ()).ties, ())

    def test_ties_in_any_order_and_either_way(self):
        told = ((0, 1, "d"), (0, 3, "a"), (1, 2, "c"), (2, 3, "b"))
        for order in itertools.permutations(told):
            for turned in itertools.product((False, True), repeat=4):
                passed = [(tie[1], tie[0], tie[2]) if turn else tie for tie, turn in zip(order, turned)]
                self.assertEqual(Web(4, passed).ties, told)

    def test_ties_are_ascending_as_numbers(self):
        passed = [(11, 2, "a"), (10, 2, "a"), (3, 2, "b"), (1, 10, "c"), (0, 9, "a"), (10, 0, "a"), (2, 0, "d")]
        told = ((0, 2, "d"), (0, 9, "a"), (0, 10, "a"), (1, 10, "c"), (2, 3, "b"), (2, 10, "a"), (2, 11, "a"))
        self.assertEqual(Web(12, passed).ties, told)

    def test_lists_and_tuples(self):
        ties = [(0, 1, "a"), (1, 2, "b")]
        web = Web(3, ties)
        for passed in (tuple(ties), [list(tie) for tie in ties], tuple(list(tie) for tie in ties), [ties[0], list(ties[1])]):
            self.assertEqual(Web(3, passed), web)
            self.assertEqual(Web(3, passed).ties, tuple(ties))
            for tie in Web(3, passed).ties:
                self.assertIs(type(tie), tuple)

    def test_what_is_passed_is_copied(self):
        first = [0, 1, "a"]
        passed = [first, (1, 2, "b")]
        web = Web(3, passed)
        self.assertEqual(passed, [[0, 1, "a"], (1, 2, "b")])
        first[1] = 2
        passed.append((0, 2, "c"))
        self.assertEqual(web.ties, ((0, 1, "a"), (1, 2, "b")))
        self.assertEqual([str(web), web.tied(0, 1), web.tied(0, 2)], ["3 : 0a1 1b2", "a", None])

    def test_by_name(self):
        self.assertEqual(Web(ties=[(0, 1, "a")], places=2), Web(2, [(0, 1, "a")]))

    def test_kinds_of_attributes(self):
        for web in WEBS:
            self.assertIs(type(web.places), int)
            self.assertIs(type(web.ties), tuple)
            self.assertIs(type(web.parts), tuple)
            for tie in web.ties:
                self.assertIs(type(tie), tuple)
            for part in web.parts:
                self.assertIs(type(part), tuple)


class MakingWrong(Case):
    def test_places(self):
        for value in TRUTHS + OTHERS + ROWS + (0, -1, 25, 26, GREAT, -GREAT):
            with self.subTest(value=value):
                self.assert_error(BadNumber("places"), Web, value, [])
                self.assert_error(BadNumber("places"), Web, value, None)
                self.assert_error(BadNumber("places"), Web, value, [(0, 0, "a")])
                self.assert_error(BadNumber("places"), Web, ties=[(0, 1, "x")], places=value)

    def test_ties_that_are_no_list(self):
        for value in TRUTHS + INTEGERS + OTHERS:
            with self.subTest(value=value):
                self.assert_error(BadWeb("ties"), Web, 3, value)

    def test_ties_that_are_no_triples(self):
        wrong = ANY + ((0, 1), (0, 1, "a", "a"), [0], "0a1", (0, 1, "a", 0), ((0, 1), "a"), {0: 1, 1: 2, 2: "a"})
        for value in wrong:
            for ties in ([value], [(0, 1, "a"), value], (value, (0, 1, "a")), [(0, 9, "a"), (0, 0, "a"), value]):
                with self.subTest(value=value):
                    self.assert_error(BadWeb("ties"), Web, 3, ties)

    def test_triples_of_other_things(self):
        for value in TRUTHS + OTHERS + ROWS:
            with self.subTest(value=value):
                self.assert_error(BadWeb("ties"), Web, 3, [(value, 1, "a")])
                self.assert_error(BadWeb("ties"), Web, 3, [(0, value, "a")])
                self.assert_error(BadWeb("ties"), Web, 3, [[9, 9, "a"], [0, value, "a"]])
        for value in NO_COLOURS:
            with self.subTest(value=value):
                self.assert_error(BadWeb("ties"), Web, 3, [(0, 1, value)])
                self.assert_error(BadWeb("ties"), Web, 3, [(7, 7, "a"), (0, 1, "b"), [1, 0, value]])
        for tie in (("a", 0, 1), (0, "a", 1)):
            self.assert_error(BadWeb("ties"), Web, 3, [tie])

    def test_no_place(self):
        for value in (-1, -3, 3, 4, 24, GREAT, -GREAT):
            self.assert_error(NoPlace(value), Web, 3, [(0, value, "a")])
            self.assert_error(NoPlace(value), Web, 3, [(value, 0, "a")])
            self.assert_error(NoPlace(value), Web, 3, [(value, value, "a")])
            self.assert_error(NoPlace(value), Web, 3, [(0, 1, "a"), (1, 0, "a"), (2, 2, "b"), (2, value, "a")])
        self.assert_error(NoPlace(7), Web, 3, [(0, 7, "a"), (8, 9, "a")])
        self.assert_error(NoPlace(8), Web, 3, [(0, 1, "a"), (8, 7, "a")])
        self.assert_error(NoPlace(1), Web, 1, [(0, 1, "a")])
        self.assert_error(NoPlace(24), Web, 24, [(0, 23, "a"), (0, 24, "a")])

    def test_a_tie_of_a_place_to_itself(self):
        self.assert_error(Twice(0), Web, 3, [(0, 0, "a")])
        self.assert_error(Twice(2), Web, 3, [(0, 1, "a"), (2, 2, "b"), (1, 1, "a")])
        self.assert_error(Twice(1), Web, 3, [(0, 1, "a"), (1, 0, "a"), (0, 1, "b"), [1, 1, "c"]])
        self.assert_error(Twice(1), Web, 3, [(1, 1, "a"), (1, 1, "a")])

    def test_two_ties_between_two_places(self):
        for one, other in ((0, 1), (1, 0)):
            for colour in "ab":
                self.assert_error(Twice((0, 1)), Web, 3, [(0, 1, "a"), (one, other, colour)])
                self.assert_error(Twice((0, 1)), Web, 3, [[1, 0, "a"], [one, other, colour]])
        self.assert_error(Twice((1, 2)), Web, 3, [(0, 1, "a"), (1, 2, "a"), (2, 1, "b"), (1, 0, "b")])
        self.assert_error(Twice((0, 1)), Web, 3, [(0, 1, "a"), (1, 2, "a"), (1, 0, "b"), (1, 2, "b")])
        self.assert_error(Twice((2, 11)), Web, 12, [(11, 2, "a"), (2, 10, "a"), (10, 11, "a"), (11, 2, "a")])

    def test_many_ties(self):
        self.assert_error(Twice((0, 1)), Web, 24, [(0, 1, "a")] * 2000)
        self.assert_error(BadWeb("ties"), Web, 24, [(0, 1, "a")] * 2000 + [(0, 1)])


def plain_parts(web):
    """The parts, by walking along ties as long as something new is found."""
    left = list(range(web.places))
    found = []
    while left:
        part = {left[0]}
        while True:
            more = {place for one, other, _ in web.ties if one in part or other in part for place in (one, other)}
            if more <= part:
                break
            part |= more
        found.append(tuple(sorted(part)))
        left = [place for place in left if place not in part]
    return tuple(found)


def has_round(web):
    """Whether something is left when places with one tie at most are left out again and again."""
    left, ties = list(range(web.places)), list(web.ties)
    while True:
        counts = {place: sum(place in tie[:2] for tie in ties) for place in left}
        ends = [place for place in left if counts[place] < 2]
        if not ends:
            return bool(left)
        left = [place for place in left if place not in ends]
        ties = [tie for tie in ties if tie[0] in left and tie[1] in left]


class Looking(Case):
    def test_parts(self):
        for web in WEBS:
            self.assertEqual(web.parts, plain_parts(web))
        self.assertEqual(Web(5, [(4, 1, "a"), (3, 0, "b")]).parts, ((0, 3), (1, 4), (2,)))
        self.assertEqual(Web(4, [(2, 3, "a"), (1, 2, "b"), (0, 3, "c")]).parts, ((0, 1, 2, 3),))
        self.assertEqual(Web(12, [(11, 2, "a"), (10, 9, "d")]).parts[2], (2, 11))

    def test_tied(self):
        for web in WEBS:
            colours = {}
            for one, other, colour in web.ties:
                colours[one, other] = colours[other, one] = colour
            for one in range(web.places):
                for other in range(web.places):
                    self.assertEqual(web.tied(one, other), colours.get((one, other)))

    def test_neighbours_and_degree(self):
        for web in WEBS:
            for place in range(web.places):
                for colour in COLOURS:
                    near = [other for other in range(web.places) if (min(place, other), max(place, other), colour) in web.ties]
                    self.assertEqual(web.neighbours(place, colour), tuple(near))
                    self.assertEqual(web.degree(place, colour), len(near))

    def test_by_name(self):
        web = Web(3, [(0, 1, "a"), (1, 2, "b")])
        self.assertEqual(web.tied(other=1, one=0), "a")
        self.assertEqual(web.neighbours(colour="b", place=1), (2,))
        self.assertEqual(web.degree(colour="a", place=2), 0)

    def test_no_place(self):
        web = Web(24, [(0, 1, "a")])
        for value in NO_PLACES:
            with self.subTest(value=value):
                self.assert_error(NoPlace(value), web.tied, value, 0)
                self.assert_error(NoPlace(value), web.tied, 0, value)
                self.assert_error(NoPlace(value), web.tied, value, 99)
                self.assert_error(NoPlace(value), web.tied, other="x", one=value)
                self.assert_error(NoPlace(value), web.neighbours, value, "a")
                self.assert_error(NoPlace(value), web.neighbours, value, "x")
                self.assert_error(NoPlace(value), web.degree, value, "a")
                self.assert_error(NoPlace(value), web.degree, colour=None, place=value)
        self.assert_error(NoPlace(3), way(3).tied, 2, 3)
        self.assert_error(NoPlace(3), way(3).neighbours, 3, "a")
        self.assert_error(NoPlace(3), way(3).degree, 3, "a")

    def test_an_error_keeps_the_value_that_was_passed(self):
        for value in ([0], {}, [[1]]):
            for function, passed in ((way(3).tied, (value, 0)), (way(3).tied, (0, value)), (way(3).degree, (value, "a"))):
                with self.assertRaises(NoPlace) as caught:
                    function(*passed)
                self.assertIs(caught.exception.value, value)

    def test_no_colour(self):
        web = Web(3, [(0, 1, "a")])
        for value in NO_COLOURS:
            with self.subTest(value=value):
                self.assert_error(BadNumber("colour"), web.neighbours, 0, value)
                self.assert_error(BadNumber("colour"), web.degree, 2, value)


class IsJoined(Case):
    def test_joined_and_trees(self):
        for web in WEBS:
            joined = len(plain_parts(web)) == 1
            self.assertIs(web.is_joined(), joined)
            self.assertIs(web.is_tree(), joined and not has_round(web))

    def test_all_small_webs(self):
        for places in range(1, 5):
            pairs = [(one, other) for other in range(places) for one in range(other)]
            for kept in itertools.product((False, True), repeat=len(pairs)):
                web = Web(places, [(one, other, "b") for (one, other), keep in zip(pairs, kept) if keep])
                joined = len(plain_parts(web)) == 1
                self.assertIs(web.is_joined(), joined)
                self.assertIs(web.is_tree(), joined and not has_round(web))

    def test_as_many_ties_as_a_tree_has(self):
        web = ring(3).beside(Web(1, []))
        self.assertEqual(len(web.ties), web.places - 1)
        self.assertIs(web.is_tree(), False)
        self.assertIs(ring(3).beside(way(3, "b")).is_tree(), False)

    def test_ties_of_several_colours(self):
        self.assertIs(Web(4, [(0, 1, "a"), (1, 2, "b"), (1, 3, "c")]).is_tree(), True)
        self.assertIs(Web(3, [(0, 1, "a"), (1, 2, "b"), (0, 2, "c")]).is_tree(), False)


class Equality(Case):
    def test_equal_webs(self):
        for web in WEBS:
            other = Web(web.places, [(two, one, colour) for one, two, colour in reversed(web.ties)])
            self.assertIs(web == other, True)
            self.assertIs(web != other, False)
            self.assertIs(web == web, True)

    def test_unlike_webs(self):
        unlike = [
            Web(3, []), Web(4, []), Web(3, [(0, 1, "a")]), Web(3, [(0, 1, "b")]), Web(3, [(0, 2, "a")]),
            Web(3, [(0, 1, "a"), (1, 2, "a")]), Web(4, [(0, 1, "a")]),
        ]
        for one, other in itertools.permutations(unlike, 2):
            self.assertIs(one == other, False)
            self.assertIs(one != other, True)

    def test_like_webs_need_not_be_equal(self):
        self.assertIs(Web(3, [(0, 1, "a")]) == Web(3, [(1, 2, "a")]), False)

    def test_values_of_other_classes(self):
        class Likeness:
            places = 2
            ties = ((0, 1, "a"),)
            parts = ((0, 1),)

        web = Web(2, [(0, 1, "a")])
        for value in ANY + ("2 : 0a1", (2, ((0, 1, "a"),)), web.ties, Likeness()):
            with self.subTest(value=value):
                self.assertIs(web == value, False)
                self.assertIs(value == web, False)
                self.assertIs(web != value, True)


class Renamed(Case):
    def test_all_orders(self):
        for web in some_webs(6, 20, 5):
            for order in itertools.permutations(range(web.places)):
                for passed in (order, list(order)):
                    found = web.renamed(passed)
                    self.assertEqual(found.places, web.places)
                    for one, other in itertools.product(range(web.places), repeat=2):
                        self.assertEqual(found.tied(one, other), web.tied(order[one], order[other]))

    def test_three_places_in_a_ring(self):
        web = Web(3, [(0, 1, "a"), (1, 2, "b")])
        self.assertEqual(str(web.renamed([1, 2, 0])), "3 : 0b1 0a2")
        self.assertEqual(str(web.renamed(order=(2, 0, 1))), "3 : 0b2 1a2")

    def test_nothing_changes(self):
        web = Web(3, [(0, 1, "a"), (1, 2, "b")])
        order = [1, 2, 0]
        found = web.renamed(order)
        order[0] = 0
        self.assertEqual([str(web), str(found), order], ["3 : 0a1 1b2", "3 : 0b1 0a2", [0, 2, 0]])

    def test_no_list(self):
        for value in TRUTHS + INTEGERS + OTHERS:
            with self.subTest(value=value):
                self.assert_error(NoPlace(value), way(3).renamed, value)

    def test_no_place(self):
        for value in NO_PLACES + (3,):
            with self.subTest(value=value):
                self.assert_error(NoPlace(value), way(3).renamed, [0, 1, value])
                self.assert_error(NoPlace(value), way(3).renamed, (0, 0, value))
                self.assert_error(NoPlace(value), way(3).renamed, [value])
                self.assert_error(NoPlace(value), way(3).renamed, [value, 99, 0])

    def test_twice(self):
        self.assert_error(Twice(0), way(3).renamed, [0, 1, 0])
        self.assert_error(Twice(1), way(3).renamed, [0, 1, 1, 0])
        self.assert_error(Twice(0), way(3).renamed, [0, 0])
        self.assert_error(Twice(2), way(3).renamed, (0, 1, 2, 2))

    def test_one_lacks(self):
        for order in ([], (), [0], [2, 1], (0, 1)):
            self.assert_error(Misfit("places"), way(3).renamed, order)
        self.assert_error(Misfit("places"), Web(1, []).renamed, [])


class Beside(Case):
    def test_places_and_ties(self):
        for one in some_webs(7, 15, 12):
            for other in some_webs(8, 15, 12):
                found = one.beside(other)
                self.assertEqual(found.places, one.places + other.places)
                behind = tuple((a + one.places, b + one.places, colour) for a, b, colour in other.ties)
                self.assertEqual(found.ties, one.ties + behind)
                parts = tuple(tuple(place + one.places for place in part) for part in other.parts)
                self.assertEqual(found.parts, one.parts + parts)

    def test_itself_and_by_name(self):
        web = way(2)
        self.assertEqual(str(web.beside(web)), "4 : 0a1 2a3")
        self.assertEqual(str(web.beside(other=Web(1, []))), "3 : 0a1")
        self.assertEqual(str(web), "2 : 0a1")

    def test_too_many(self):
        self.assertEqual(way(12).beside(way(12)).places, 24)
        self.assertEqual(Web(1, []).beside(way(23)).places, 24)
        for one, other in ((12, 13), (13, 12), (24, 1), (1, 24), (24, 24)):
            self.assert_error(TooMany("places", 24), way(one).beside, way(other))

    def test_no_web(self):
        for value in ANY:
            with self.subTest(value=value):
                self.assert_error(BadWeb("other"), way(2).beside, value)
                self.assert_error(BadWeb("other"), way(24).beside, other=value)


class Opposite(Case):
    def test_against_plain_looking(self):
        for colour in COLOURS:
            for web in some_webs(9, 20, 24, colour):
                found = web.opposite(colour)
                self.assertEqual(found.places, web.places)
                for one, other in itertools.combinations(range(web.places), 2):
                    self.assertEqual(found.tied(one, other), None if web.tied(one, other) == colour else colour)
                self.assertEqual(found.opposite(colour=colour), web)

    def test_no_ties(self):
        self.assertEqual(Web(4, []).opposite("c"), full(4, "c"))
        self.assertEqual(Web(1, []).opposite("a"), Web(1, []))

    def test_other_colours(self):
        for web in (way(3, "b"), Web(3, [(0, 1, "a"), (1, 2, "b")]), Web(3, [(0, 1, "b"), (1, 2, "a")])):
            self.assert_error(Misfit("colours"), web.opposite, "a")
        self.assert_error(Misfit("colours"), Web(3, [(0, 1, "a"), (1, 2, "b")]).opposite, "b")

    def test_no_colour(self):
        for value in NO_COLOURS:
            with self.subTest(value=value):
                self.assert_error(BadNumber("colour"), way(3).opposite, value)
                self.assert_error(BadNumber("colour"), Web(3, []).opposite, colour=value)


class Plain(Case):
    def assert_plain(self, web):
        told = min(str(web.renamed(order)) for order in itertools.permutations(range(web.places)))
        self.assertEqual(str(web.plain()), told)

    def test_all_small_webs(self):
        for places in range(1, 4):
            pairs = [(one, other) for other in range(places) for one in range(other)]
            for colours in itertools.product((None, "a", "b"), repeat=len(pairs)):
                ties = [(one, other, colour) for (one, other), colour in zip(pairs, colours) if colour]
                self.assert_plain(Web(places, ties))

    def test_against_all_orders(self):
        for web in some_webs(10, 60, 5) + some_webs(11, 60, 5, "a") + some_webs(12, 8, 6):
            self.assert_plain(web)

    def test_webs_with_many_likenesses(self):
        for web in (full(5), Web(5, []), ring(5), way(5), ring(3).beside(way(2)), full(4, "d"), ring(4, "c")):
            self.assert_plain(web)

    def test_seven_places_are_let(self):
        self.assert_plain(Web(7, [(0, 1, "b"), (1, 2, "a"), (2, 3, "a"), (3, 4, "b"), (4, 5, "a"), (5, 6, "b"), (2, 6, "a")]))
        self.assertEqual(full(7).plain(), full(7))
        self.assertEqual(Web(7, []).plain(), Web(7, []))
        self.assertEqual(str(ring(7).plain()), "7 : 0a1 0a2 1a3 2a4 3a5 4a6 5a6")

    def test_one_for_all_that_are_like(self):
        chance = random.Random(13)
        for _ in range(40):
            web = some_web(chance, 7, chance.choice(("a", "ab", "abcd")))
            self.assertEqual(mixed_up(chance, web).plain(), web.plain())
            self.assertEqual(web.plain().plain(), web.plain())

    def test_eight_places_are_not(self):
        for places in (8, 9, 24):
            self.assert_error(TooMany("places", 7), way(places).plain)

    def test_nothing_changes(self):
        web = Web(3, [(1, 2, "a")])
        self.assertEqual([str(web.plain()), str(web)], ["3 : 0a1", "3 : 1a2"])


def plain_read(text):
    """What `read` must do: the web, or the error that it must raise."""
    if not isinstance(text, str):
        return BadText(0, 0)
    items = text.split(" ")
    for many in range(1, len(items) + 1):
        head = items[:many]
        if many == 1:
            good = head[0] in [str(places) for places in range(1, 25)]
        else:
            found = re.fullmatch(r"([0-9]{1,2}) :((?: [0-9]{1,2}[abcd][0-9]{1,2})*)", " ".join(head))
            good = found is not None and is_text(found, " ".join(head))
        if not good:
            return BadText(0, many - 1)
    return BadText(0, 1) if len(items) == 1 else None


def is_text(found, text):
    ties = [re.split("([abcd])", item) for item in found[2].split()]
    try:
        return str(Web(int(found[1]), [(int(one), int(other), colour) for one, colour, other in ties])) == text
    except WebError:
        return False


def changed(chance, text):
    """The text with an item exchanged, left out, put in, doubled, or exchanged with another, or spoilt inside."""
    items = text.split(" ")
    at = chance.randrange(len(items))
    more = chance.choice([
        "", ":", "0", "1", "24", "25", "01", "0a0", "0a1", "1a0", "0a23", "0b2", "00a1", "0a01", "+0a1", "0a-1", "0A1", "0e1",
        "0aa1", "0a1a2", "a", "a1", "0a", "\u0660a1", "0a\u0661", "0a1\n", "\t0a1", "9" * 50 + "a1", "1.0", "-1", "+3", " ",
    ])
    kind = chance.randrange(6)
    if kind == 0:
        items[at] = more
    elif kind == 1:
        del items[at]
    elif kind == 2:
        items.insert(at, more)
    elif kind == 3:
        items.insert(at, items[at])
    elif kind == 4:
        to = chance.randrange(len(items))
        items[at], items[to] = items[to], items[at]
    else:
        cut = chance.randrange(len(text) + 1)
        return text[:cut] + chance.choice(["", "a", "b", "0", "1", " ", ":", "x", "-"]) + text[cut + chance.randrange(2):]
    return " ".join(items)


class Texts(Case):
    def test_texts(self):
        self.assertEqual(str(Web(1, [])), "1 :")
        self.assertEqual(str(Web(24, [(23, 0, "d"), (2, 10, "a"), (2, 9, "b")])), "24 : 0d23 2b9 2a10")
        for web in WEBS:
            ties = "".join(f" {one}{colour}{other}" for one, other, colour in web.ties)
            self.assertEqual(str(web), f"{web.places} :{ties}")

    def test_read_of_texts(self):
        for web in WEBS:
            found = Web.read(str(web))
            self.assertEqual(found, web)
            self.assertEqual(str(found), str(web))
            self.assertEqual(found.parts, web.parts)
        self.assertEqual(Web.read(text="2 : 0a1"), way(2))
        self.assertEqual(way(5).read("2 : 0a1"), way(2))

    def test_read_of_changed_texts(self):
        chance = random.Random(14)
        many = 0
        for web in some_webs(15, 300, 12) + [Web(1, []), Web(24, []), full(5)]:
            for _ in range(6):
                text = changed(chance, str(web))
                error = plain_read(text)
                with self.subTest(text=text):
                    if error is None:
                        self.assertEqual(str(Web.read(text)), text)
                    else:
                        many += 1
                        self.assert_error(error, Web.read, text)
        self.assertGreater(many, 1000)

    def test_items_that_cannot_stand(self):
        told = {
            "": 0, " ": 0, "x": 0, "0": 0, "25": 0, "-1": 0, "+3": 0, "03": 0, "3:": 0, ":": 0, "0 :": 0, "25 :": 0, " 3 :": 0,
            "3.0 :": 0, "\u0663 :": 0, "\u00b3 :": 0, "3\n:": 0, "100 :": 0, "9" * 5000: 0, "9" * 5000 + " :": 0,
            "3": 1, "24": 1, "3 ": 1, "3 0a1": 1, "3  :": 1, "3 ::": 1, "3 :0a1": 1, "3 ;": 1, "3 3 :": 1, "3 : ": 2,
            "3 :  0a1": 2, "3 : :": 2, "3 : 0a3": 2, "3 : 3a0": 2, "3 : 1a0": 2, "3 : 1a1": 2, "3 : 0e1": 2, "3 : 0A1": 2,
            "3 : 01": 2, "3 : 0a": 2, "3 : a1": 2, "3 : a": 2, "3 : 00a1": 2, "3 : 0a01": 2, "3 : 0a+1": 2, "3 : -0a1": 2,
            "3 : 0aa1": 2, "3 : 0a1b2": 2, "3 : 0a1,": 2, "1 : 0a1": 2, "3 : 0a" + "1" * 5000: 2, "24 : 0a24": 2,
            "3 : 0a1 ": 3, "3 : 0a1 0a1": 3, "3 : 0a1 0b1": 3, "3 : 0b1 0a1": 3, "3 : 0a2 0a1": 3, "3 : 1a2 0a1": 3,
            "3 : 0a1  0a2": 3, "3 : 0a1 :": 3, "3 : 0a1 x 0a1": 3, "12 : 2a10 2a9": 3, "12 : 2a11 10a11 2a10": 4,
            "3 : 0a1 0a2 1a2 1a3": 5, "3 : 0a1 0a2 1a2 2a0": 5, "3 : 0a1 0a2 1a2 ": 5,
        }
        for text, item in told.items():
            with self.subTest(text=text[:30]):
                self.assert_error(BadText(0, item), Web.read, text)

    def test_long_texts(self):
        self.assert_error(BadText(0, 2), Web.read, "3 :" + " " * 19000)
        self.assert_error(BadText(0, 3), Web.read, "3 :" + " 0a1" * 4900)
        self.assertEqual(Web.read(str(full(24))), full(24))

    def test_what_is_no_string(self):
        for value in ANY + ([], ["3", ":"], ("3", ":"), b"3 :", way(3)):
            if not isinstance(value, str):
                with self.subTest(value=value):
                    self.assert_error(BadText(0, 0), Web.read, value)
        self.assert_error(BadText(0, 0), Web.read, text=None)


class Facts(Case):
    def test_ties_of_joined_webs(self):
        for web in WEBS:
            if web.is_joined():
                self.assertGreaterEqual(len(web.ties), web.places - 1)
                self.assertIs(web.is_tree(), len(web.ties) == web.places - 1)

    def test_two_webs_are_like_exactly_if_their_plain_webs_are_equal(self):
        webs = [web for web in some_webs(16, 25, 4, "ab") if web.places == 4]
        for one, other in itertools.combinations(webs, 2):
            like = any(one.renamed(order) == other for order in itertools.permutations(range(4)))
            self.assertIs(one.plain() == other.plain(), like)

    def test_regular_webs(self):
        web = lines(24, (1, 2, 12))
        self.assertEqual({web.degree(place, "a") for place in range(24)}, {5})
