"""[10] Turns: tables that are turns, renaming tables, walks that span a web, and switched webs."""

import itertools
import random
from fractions import Fraction

from littlewebs.check_led import shows_sums
from littlewebs.errors import BadLot, BadNumber, BadTable, BadWeb, BadWord, Misfit, NoPlace, TooMany, Twice
from littlewebs.led import Led, alike_sums, basis
from littlewebs.polynomials import alike_both
from littlewebs.turns import is_turn, order_of, spans, switched, switching_lots, switching_table
from littlewebs.webs import Web
from littlewebs.words import trace_of
from tests.helpers import COLOURS, Case, full, lines, mixed_up, ring, some_web, some_webs, way, words_in
from tests.test_led import NO_LETTERS
from tests.test_polynomials import NO_COLOURS
from tests.values import ANY

SPIDER = Web.read("7 : 0a4 0a5 0a6 1a4 2a5 3a6")

NO_TABLES = tuple(value for value in ANY if value not in ([], (), ((), []))) + (
    [[1, 0], [0, 1]], [[(1, 1)], [(1, 1), (0, 1)]], [[(2, 2)]], [[(1, 0)]], [[(1, -1)]], [[(True, 1)]], [[(1, True)]], [[(1.0, 1)]],
    [[("1", 1)]], [[(1,)]], [[(1, 1, 1)]], [[None]], [None], [[(1, 1)], None], "1", [[(0, 2)]], {0: [(1, 1)]}, [{0: (1, 1)}],
    [[(1, 1)], []], [[[1, 1]], [[1, 1], [1, 1]]], [[{1, 1}]], [["11"]],
)


def pairs(table):
    return tuple(tuple(Fraction(worth).as_integer_ratio() for worth in row) for row in table)


def worths(table):
    return [[Fraction(*worth) for worth in row] for row in table]


def multiplied(table, other):
    return [[sum(one * two for one, two in zip(row, column)) for column in zip(*other)] for row in table]


def renaming(order):
    """The renaming table that tells the order: the 1 of column k is in row order[k]."""
    return [[Fraction(order[column] == row) for column in range(len(order))] for row in range(len(order))]


def plain_turn(table):
    """Whether a table of Fractions is a turn, by the words of the document."""
    if any(len(row) != len(table) for row in table):
        return False
    products = [[sum(a * b for a, b in zip(row, other)) for other in table] for row in table]
    return products == [[int(at == to) for to in range(len(table))] for at in range(len(table))]


def some_lots(chance, places):
    """Some lots of so many places, no place in two of them."""
    order = chance.sample(range(places), places)
    lots = []
    while order and chance.random() < 0.7:
        many = chance.randint(1, len(order))
        lots.append(sorted(order[:many]))
        order = order[many:]
    return lots


def ties_to(web, place, lot):
    return sum(web.tied(place, other) is not None for other in lot)


def plain_switched(web, colour, lots):
    """The switched web, by the words of the document; None if it may not be switched there."""
    outside = [place for place in range(web.places) if place not in itertools.chain(*lots)]
    for lot, other in itertools.product(lots, repeat=2):
        if any(ties_to(web, one, other) != ties_to(web, two, other) for one in lot for two in lot):
            return None
    ties = {tie[:2] for tie in web.ties}
    for place, lot in itertools.product(outside, lots):
        many = Fraction(ties_to(web, place, lot), len(lot))
        if many not in (0, Fraction(1, 2), 1):
            return None
        if many == Fraction(1, 2):
            ties ^= {tuple(sorted((place, other))) for other in lot}
    return Web(web.places, [(*tie, colour) for tie in sorted(ties)])


def table_of(web):
    places = range(web.places)
    return [[int(web.tied(row, column) is not None) for column in places] for row in places]


class Examples(Case):
    def test_of_the_interface(self):
        self.assert_examples("""
>>> spider = Web.read("7 : 0a4 0a5 0a6 1a4 2a5 3a6")
>>> lots = [(0, 1, 2, 3)]
>>> str(switched(spider, "a", lots))
'7 : 1a5 1a6 2a4 2a6 3a4 3a5'
>>> table = switching_table(spider, lots)
>>> [table[0], table[4], is_turn(table), order_of(table)]
[((-1, 2), (1, 2), (1, 2), (1, 2), (0, 1), (0, 1), (0, 1)), ((0, 1), (0, 1), (0, 1), (0, 1), (1, 1), (0, 1), (0, 1)), True, None]
>>> [shows_sums(spider, switched(spider, "a", lots), "a", Led(table)), switched(switched(spider, "a", lots), "a", lots) == spider]
[True, True]
>>> walk = Web.read("3 : 0a1 1a2")
>>> [switching_lots(walk, "a"), str(switched(walk, "a", [(0, 1)])), order_of(switching_table(walk, [[0, 1]]))]
[((0, 1), (1, 2)), '3 : 0a1 0a2', (1, 0, 2)]
>>> mixed = Web.read("3 : 0a1 1b2")
>>> [spans(mixed, "ab"), spans(mixed, "a"), spans(walk, "aA")]
[True, False, False]
>>> is_turn([[(1, 2), (1, 2)], [(1, 2), (1, 2)]])
False
>>> switched(spider, "a", [(0, 1, 2)])
raises Misfit('lots')
>>> switched(spider, "a", [(1, 2), (2, 3)])
raises Twice(2)
""", "led", "check_led", "turns")

    def test_names_and_files(self):
        self.assert_signatures("turns", {
            "is_turn": "table", "order_of": "table", "spans": "web letters", "switched": "web colour lots",
            "switching_table": "web lots", "switching_lots": "web colour",
        })


class Turns(Case):
    def assert_turn(self, table, told=None):
        """That a table of Fractions is told rightly, by lists and by tuples."""
        right = plain_turn(table) if told is None else told
        self.assertIs(is_turn(pairs(table)), right)
        self.assertIs(is_turn(table=[[list(worth) for worth in row] for row in pairs(table)]), right)
        return right

    def some_turns(self, seed, many):
        chance = random.Random(seed)
        for _ in range(many):
            places = chance.randint(1, 9)
            table = renaming(chance.sample(range(places), places))
            for _ in range(chance.randint(0, 3)):
                table = multiplied(table, worths(switching_table(Web(places, []), some_lots(chance, places))))
            yield table

    def test_switching_tables_renaming_tables_and_products(self):
        for table in self.some_turns(250, 60):
            self.assert_turn(table, True)
            self.assert_turn(list(zip(*table)), True)

    def test_other_turns(self):
        turned = [[Fraction(3, 5), Fraction(4, 5)], [Fraction(-4, 5), Fraction(3, 5)]]
        self.assert_turn(turned, True)
        self.assert_turn([[Fraction(-1)]], True)
        self.assert_turn([[Fraction(2, 3), Fraction(2, 3), Fraction(1, 3)], [Fraction(-2, 3), Fraction(1, 3), Fraction(2, 3)], [Fraction(1, 3), Fraction(-2, 3), Fraction(2, 3)]], True)

    def test_one_number_row_or_column_changed(self):
        chance = random.Random(251)
        for table in self.some_turns(252, 25):
            places = len(table)
            row, column = chance.randrange(places), chance.randrange(places)
            for more in (Fraction(1), Fraction(-1, 10 ** 50)):
                changed = [list(worth) for worth in table]
                changed[row][column] += more
                self.assert_turn(changed)
            self.assert_turn(table[:row] + [[2 * worth for worth in table[row]]] + table[row + 1:], False)
            self.assert_turn(table[:row] + [[-worth for worth in table[row]]] + table[row + 1:], True)
            self.assert_turn(table + [table[0]], False)
            self.assert_turn([worth[:column] + worth[column + 1:] for worth in map(list, table)], False)
            self.assert_turn([list(worth) + [Fraction(0)] for worth in table], False)
            if places > 1:
                self.assert_turn(table[:row] + table[row + 1:], False)
                self.assert_turn([table[1]] + table[1:], False)

    def test_rows_of_length_one_that_are_not_square_to_one_another(self):
        self.assert_turn([[Fraction(1), Fraction(0)], [Fraction(1), Fraction(0)]], False)
        self.assert_turn([[Fraction(3, 5), Fraction(4, 5)], [Fraction(4, 5), Fraction(3, 5)]], False)
        self.assert_turn([[Fraction(1, 2)] * 2] * 2, False)
        self.assert_turn([[Fraction(1, 2)] * 4] * 4, False)
        self.assert_turn([[Fraction(0)]], False)

    def test_great_tables(self):
        order = random.Random(253).sample(range(55), 55)
        self.assert_turn(renaming(order), True)
        self.assertEqual(order_of(pairs(renaming(order))), tuple(order))
        chance = random.Random(254)
        table = [[(chance.randrange(10 ** 399) * 2 + 1, 2 ** chance.randrange(1300, 1320)) for _ in range(55)] for _ in range(55)]
        self.assertEqual([is_turn(table), order_of(table)], [False, None])
        for table in ([[(1, 1)]] * 3000, [[(1, 1)] * 3000], [[(10 ** 399, 10 ** 399 - 1)] * 1000] * 3):
            self.assertEqual([is_turn(table), order_of(table)], [False, None])
        great = 10 ** 150
        one, two, three = 2 * great, great * great - 1, great * great + 1
        turned = [[Fraction(one, three), Fraction(two, three)], [Fraction(-two, three), Fraction(one, three)]]
        self.assert_turn(turned, True)

    def test_what_is_no_table(self):
        for value in NO_TABLES:
            with self.subTest(value=value):
                self.assert_error(BadTable("table"), is_turn, value)
                self.assert_error(BadTable("table"), is_turn, table=value)
                self.assert_error(BadTable("table"), order_of, value)
                self.assert_error(BadTable("table"), order_of, table=value)


class OrderOf(Case):
    def test_renaming_tables(self):
        chance = random.Random(255)
        for places in range(1, 13):
            order = chance.sample(range(places), places)
            table = pairs(renaming(order))
            self.assertEqual(order_of(table), tuple(order))
            self.assertEqual(order_of(table=[[list(worth) for worth in row] for row in table]), tuple(order))
            web = some_web(chance, places, "ab")
            self.assertIs(shows_sums(web, web.renamed(order), "abAB", Led(table)), True)
            self.assertEqual(is_turn(table), True)

    def test_other_tables(self):
        for table in (
            [[(1, 1), (1, 1)], [(0, 1), (0, 1)]], [[(1, 1), (0, 1)], [(1, 1), (0, 1)]], [[(-1, 1)]], [[(0, 1)]], [[(2, 1)]],
            [[(1, 1), (0, 1)]], [[(1, 1)], [(0, 1)]], [[(1, 2), (1, 2)], [(1, 2), (1, 2)]], [[(3, 5), (4, 5)], [(-4, 5), (3, 5)]],
            [[(1, 1), (0, 1), (0, 1)], [(0, 1), (1, 1), (0, 1)]], [[]], [[], []], [[(0, 1), (1, 1)], [(-1, 1), (0, 1)]],
            [[(1, 1), (0, 1), (0, 1)], [(0, 1), (1, 1), (0, 1)], [(0, 1), (0, 1), (1, 1)], [(0, 1), (0, 1), (1, 1)]],
            [[(1, 1), (0, 1)], [(0, 1), (1, 1)], [(0, 1), (0, 1)]],
        ):
            with self.subTest(table=table):
                self.assertIsNone(order_of(table))

    def test_switching_tables(self):
        self.assertEqual(order_of(switching_table(Web(5, []), [(0, 3), (1, 4), (2,)])), (3, 4, 2, 0, 1))
        self.assertEqual(order_of(switching_table(Web(3, []), [])), (0, 1, 2))
        self.assertIsNone(order_of(switching_table(Web(3, []), [(0, 1, 2)])))


class Spans(Case):
    def test_against_basis(self):
        told = {True: 0, False: 0}
        for web in some_webs(256, 60, 7, "ab") + [Web(1, []), Web(12, []), way(12)]:
            for letters in ("", "a", "aA", "abAB", "ba"):
                found = spans(web, letters)
                self.assertIs(found, len(basis(web, letters)) == web.places)
                told[found] += 1
        self.assertGreater(min(told.values()), 10)
        self.assertEqual([spans(Web(1, []), ""), spans(letters="a", web=way(2))], [True, False])

    def test_errors(self):
        for value in ANY + ("2 : 0a1",):
            self.assert_error(BadWeb("web"), spans, value, "a")
            self.assert_error(BadWeb("web"), spans, letters=None, web=value)
        for value in NO_LETTERS:
            self.assert_error(BadWord("letters"), spans, way(3), value)
            self.assert_error(BadWord("letters"), spans, letters=value, web=way(13))
        self.assert_error(TooMany("places", 12), spans, way(13), "a")
        self.assert_error(TooMany("places", 12), spans, Web(24, []), "")
        self.assertIs(spans(way(12), "a"), False)


class Switched(Case):
    def assert_switched(self, web, colour, lots):
        """That the web is switched by the words of the document, and by the table; or that it is told that it may not be."""
        told = plain_switched(web, colour, lots)
        if told is None:
            self.assert_error(Misfit("lots"), switched, web, colour, lots)
            return False
        found = switched(web, colour, lots)
        self.assertEqual(found, told)
        table = worths(switching_table(web, lots))
        self.assertEqual(multiplied(multiplied(table, table_of(web)), table), table_of(found))
        self.assertEqual(switched(found, colour, lots), web)
        self.assertEqual(switched(web, colour, tuple(reversed([list(lot) for lot in lots]))), found)
        return True

    def test_any_lots(self):
        chance = random.Random(257)
        many = [0, 0]
        for _ in range(900):
            web = some_web(chance, chance.randint(1, 7), "b", chance.choice((0.2, 0.5, 0.8)))
            many[self.assert_switched(web, "b", some_lots(chance, web.places))] += 1
        self.assertGreater(min(many), 100)

    def test_lots_of_four_and_two_lots_at_once(self):
        chance = random.Random(258)
        changed = {1: 0, 2: 0}
        for _ in range(1000):
            # Two rounds of four or none, tied to one another at each place or nowhere, and places tied to halves of them.
            ties = [(at + 4 * lot, (at + 1) % 4 + 4 * lot) for lot in range(2) if chance.random() < 0.5 for at in range(4)]
            for place in (8, 9):
                for lot in range(2):
                    ties += [(at + 4 * lot, place) for at in chance.sample(range(4), chance.choice((0, 2, 4, 2)))]
            web = Web(10, [(*tie, "a") for tie in ties])
            lots = chance.choice(([(0, 1, 2, 3)], [(4, 5, 6, 7)], [(4, 5, 6, 7), (0, 1, 2, 3)]))
            self.assertIsNotNone(plain_switched(web, "a", lots))
            if changed[len(lots)] < 40:
                self.assert_switched(web, "a", lots)
                changed[len(lots)] += switched(web, "a", lots) != web
        self.assertEqual(changed, {1: 40, 2: 40})

    def test_lots_tied_to_one_another(self):
        # Each place of one lot is tied to two of the other.
        ties = [(at, 4 + (at + step) % 4) for at in range(4) for step in range(2)]
        web = Web(10, [(*tie, "c") for tie in ties + [(0, 8), (2, 8), (4, 8), (5, 8), (4, 9), (6, 9)]])
        self.assertIs(self.assert_switched(web, "c", [(0, 1, 2, 3), (4, 5, 6, 7)]), True)
        # Alone a lot may be switched, too: but then ties to the other one change.
        self.assertIs(self.assert_switched(web, "c", [(0, 1, 2, 3)]), True)
        # One tie more between the lots, and each place of them has no longer equally many.
        more = Web(10, [*web.ties, (0, 6, "c")])
        self.assertIs(self.assert_switched(more, "c", [(0, 1, 2, 3), (4, 5, 6, 7)]), False)
        self.assertIs(self.assert_switched(Web(10, [*web.ties, (0, 1, "c")]), "c", [(0, 1, 2, 3), (4, 5, 6, 7)]), False)

    def test_no_lots(self):
        for web in some_webs(259, 20, 24, "a"):
            self.assertEqual([switched(web, "a", []), switched(web, "a", ())], [web, web])
            self.assertEqual(switched(web, "a", [(place,) for place in range(web.places)]), web)

    def test_two_places_are_exchanged(self):
        chance = random.Random(260)
        many = 0
        for _ in range(300):
            web = some_web(chance, chance.randint(2, 6), "a")
            one, other = sorted(chance.sample(range(web.places), 2))
            if web.degree(one, "a") == web.degree(other, "a"):
                order = list(range(web.places))
                order[one], order[other] = other, one
                self.assertEqual(switched(web, "a", [(one, other)]), web.renamed(order))
                many += 1
        self.assertGreater(many, 50)

    def test_by_name(self):
        self.assertEqual(str(switched(lots=[[0, 1, 2, 3]], colour="a", web=SPIDER)), "7 : 1a5 1a6 2a4 2a6 3a4 3a5")

    def test_nothing_changes(self):
        lots = [[2, 3], [0, 1]]
        switched(full(4), "a", lots)
        switching_table(full(4), lots)
        self.assertEqual(lots, [[2, 3], [0, 1]])


class SwitchingTable(Case):
    def test_against_the_words(self):
        chance = random.Random(261)
        for _ in range(60):
            web = some_web(chance, chance.randint(1, 24), chance.choice(("a", "abcd")))
            lots = some_lots(chance, web.places)
            told = [[Fraction(row == column) for column in range(web.places)] for row in range(web.places)]
            for lot in lots:
                for one, other in itertools.product(lot, repeat=2):
                    told[one][other] = Fraction(2, len(lot)) - int(one == other)
            found = switching_table(web, lots)
            self.assertEqual(found, pairs(told))
            self.assertEqual({type(found), *map(type, found), *(type(worth) for row in found for worth in row)}, {tuple})
            self.assertEqual(switching_table(lots=tuple(map(tuple, lots[::-1])), web=web), found)
            self.assertIs(is_turn(found), True)
            self.assertEqual(found, tuple(zip(*found)))
            self.assertEqual([sum(row) for row in told], [1] * web.places)
            self.assertEqual(multiplied(told, told), [[int(row == column) for column in range(web.places)] for row in range(web.places)])

    def test_where_the_web_may_not_be_switched(self):
        self.assertEqual(len(switching_table(SPIDER, [(0, 1, 2)])), 7)
        self.assertEqual(switching_table(Web.read("2 : 0b1"), [(0, 1)]), (((0, 1), (1, 1)), ((1, 1), (0, 1))))
        self.assertEqual(switching_table(Web(1, []), [(0,)]), (((1, 1),),))


class SwitchingLots(Case):
    def plain_lots(self, web, colour):
        found = []
        for many in range(1, web.places + 1):
            for lot in itertools.combinations(range(web.places), many):
                if plain_switched(web, colour, [lot]) not in (None, web):
                    found.append(lot)
        return tuple(found)

    def test_against_plain_trial(self):
        chance = random.Random(262)
        for _ in range(40):
            web = some_web(chance, chance.randint(1, 7), "d", chance.choice((0.2, 0.5, 0.8)))
            self.assertEqual(switching_lots(web, "d"), self.plain_lots(web, "d"))
        for web in (way(7), ring(8), full(6), SPIDER, Web(5, []), Web(1, []), lines(8, (1, 4))):
            self.assertEqual(switching_lots(web, "a"), self.plain_lots(web, "a"))

    def test_each_lot_switches(self):
        chance = random.Random(263)
        lots = 0
        for _ in range(10):
            web = some_web(chance, 8, "a")
            for lot in switching_lots(colour="a", web=web):
                lots += 1
                found = switched(web, "a", [lot])
                self.assertNotEqual(found, web)
                self.assertIs(shows_sums(web, found, "a", Led(switching_table(web, [lot]))), True)
        self.assertGreater(lots, 20)

    def test_order(self):
        lots = switching_lots(SPIDER, "a")
        self.assertIn((0, 1, 2, 3), lots)
        self.assertEqual(list(lots), sorted(lots, key=lambda lot: (len(lot), lot)))
        self.assertEqual([type(lots), *map(type, lots)], [tuple] * (len(lots) + 1))

    def test_ten_places_are_let_and_eleven_are_not(self):
        self.assertEqual(switching_lots(full(10), "a"), ())
        self.assertEqual(switching_lots(Web(10, []), "d"), ())
        for web in (way(10), ring(10), Web.read("10 : 0a1")):
            self.assertEqual(switching_lots(web, "a"), self.plain_lots(web, "a"))
        for web in (way(11), full(24), Web(11, [])):
            self.assert_error(TooMany("places", 10), switching_lots, web, "a")


class Wrong(Case):
    def test_webs_and_colours(self):
        for value in ANY + ("2 : 0a1",):
            with self.subTest(value=value):
                self.assert_error(BadWeb("web"), switched, value, "a", [])
                self.assert_error(BadWeb("web"), switched, lots=value, colour=value, web=value)
                self.assert_error(BadWeb("web"), switching_table, value, [])
                self.assert_error(BadWeb("web"), switching_table, lots=None, web=value)
                self.assert_error(BadWeb("web"), switching_lots, value, "a")
                self.assert_error(BadWeb("web"), switching_lots, colour=value, web=value)
        mixed = Web.read("24 : 0a1 1b2")
        for value in NO_COLOURS:
            with self.subTest(value=value):
                self.assert_error(BadNumber("colour"), switched, way(3), value, [])
                self.assert_error(BadNumber("colour"), switched, lots=None, colour=value, web=mixed)
                self.assert_error(BadNumber("colour"), switching_lots, way(3), value)
                self.assert_error(BadNumber("colour"), switching_lots, colour=value, web=mixed)

    def test_what_are_no_lots(self):
        mixed = Web.read("3 : 0a1 1b2")
        wrong = tuple(value for value in ANY if value not in ([], (), [1, 2])) + (
            [0], [0, 1], [[]], [()], [(0,), ()], [[0, 0]], [[1, 0]], [(0, 1, 1)], [[True]], [[0, True]], [[0, 1.0]], [["0"]], ["01"],
            [[None]], [None], "01", "0", [{0, 1}], [{0: 1}], {0: [1]}, [[0], [2, 1]], [(9, 8)], [[(0,)]], [range(2)], (0, 1), [[0], 1],
            [[9], [2, 1]], [[0], [0], [False]], range(0),
        )
        for value in wrong:
            with self.subTest(value=value):
                for web in (way(3), mixed):
                    self.assert_error(BadLot("lots"), switched, web, "a", value)
                    self.assert_error(BadLot("lots"), switched, lots=value, colour="b", web=web)
                    self.assert_error(BadLot("lots"), switching_table, web, value)
                    self.assert_error(BadLot("lots"), switching_table, lots=value, web=web)

    def test_what_are_no_places(self):
        mixed = Web.read("3 : 0a1 1b2")
        for lots, value in (
            ([[3]], 3), ([[0, 1], [-1, 2]], -1), ([[0], [0], [5, 6]], 5), ([(2, 10 ** 399)], 10 ** 399), ([[-2, -1, 0]], -2),
            ([[0, 1], [0, 7], [-1]], 7), ([[24]], 24),
        ):
            for web in (way(3), mixed):
                self.assert_error(NoPlace(value), switched, web, "a", lots)
                self.assert_error(NoPlace(value), switching_table, lots=lots, web=web)

    def test_what_stands_twice(self):
        mixed = Web.read("4 : 0a1 1b2")
        for lots, value in (([[0], [0]], 0), ([(1, 2), (0, 3), (2,), (0,)], 2), ([[0, 1], [2, 3], [1, 3]], 1), ([(0, 1), [0, 1]], 0)):
            for web in (way(4), mixed):
                self.assert_error(Twice(value), switched, web, "a", lots)
                self.assert_error(Twice(value), switching_table, web=web, lots=lots)

    def test_webs_of_two_colours(self):
        mixed = Web.read("4 : 0a1 1b2")
        for colour in COLOURS:
            # The lots may not be switched, either; and there are too many places.
            self.assert_error(Misfit("colours"), switched, mixed, colour, [(0, 1, 2)])
            self.assert_error(Misfit("colours"), switched, mixed, colour, [])
            self.assert_error(Misfit("colours"), switching_lots, mixed, colour)
            self.assert_error(Misfit("colours"), switching_lots, Web(11, mixed.ties), colour)
        for colour in "bcd":
            self.assert_error(Misfit("colours"), switched, way(4), colour, [])
            self.assert_error(Misfit("colours"), switching_lots, way(11), colour)
        self.assertEqual([switched(Web(4, []), "c", [(0, 1)]), switching_lots(Web(4, []), "c")], [Web(4, []), ()])

    def test_lots_that_may_not_be_switched(self):
        for web, lots in (
            (SPIDER, [(0, 1, 2)]), (SPIDER, [(0, 1, 2, 4)]), (way(3), [(0, 1, 2)]), (way(4), [(0, 1, 2)]),
            (Web.read("4 : 0a3"), [(0, 1, 2)]), (Web.read("3 : 0a1"), [(0, 1, 2)]),
        ):
            self.assertIsNone(plain_switched(web, "a", lots))
            self.assert_error(Misfit("lots"), switched, web, "a", lots)
        # A lot of one place has no half.
        self.assertEqual(switched(way(3), "a", [(0,), (2,)]), way(3))


class Facts(Case):
    def test_turns_keep_traces(self):
        chance = random.Random(264)
        many = 0
        for _ in range(30):
            web = some_web(chance, 6, "a")
            for lot in switching_lots(web, "a"):
                other = switched(web, "a", [lot])
                many += 1
                for word in words_in("a", 6):
                    self.assertEqual(trace_of(web, word), trace_of(other, word))
                self.assertEqual(alike_both(web, other, "a").word, "both")
                table = Led(switching_table(web, [lot]))
                self.assertIs(shows_sums(web.opposite("a"), other.opposite("a"), "a", table), True)
        self.assertGreater(many, 20)

    def test_a_turn_of_integers_whose_rows_add_up_to_one_renames(self):
        for table in itertools.product(itertools.product((-1, 0, 1), repeat=3), repeat=3):
            found = pairs(table)
            if is_turn(found) and all(sum(row) == 1 for row in table):
                self.assertIsNotNone(order_of(found))
            if order_of(found) is not None:
                self.assertIs(is_turn(found), True)

    def test_walks_that_span_leave_one_table(self):
        many = 0
        chance = random.Random(265)
        for web in some_webs(266, 60, 5, "ab"):
            if spans(web, "ab"):
                many += 1
                other = mixed_up(chance, web)
                self.assertIs(is_turn(alike_sums(web, other, "ab").table), True)
                self.assertEqual(web.renamed(order_of(alike_sums(web, other, "ab").table)), other)
        self.assertGreater(many, 5)
