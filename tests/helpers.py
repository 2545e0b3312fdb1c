"""Helpers of the tests: examples as the interface writes them, errors with their fields, and webs to try."""

import importlib
import inspect
import itertools
import random
import unittest
from fractions import Fraction

from littlewebs.webs import Web

COLOURS = "abcd"


class Case(unittest.TestCase):
    def assert_error(self, error, function, *passed, **named):
        """That the call raises an error of just this class and with just these fields."""
        with self.assertRaises(type(error)) as caught:
            function(*passed, **named)
        self.assertIs(type(caught.exception), type(error))
        self.assertEqual(vars(caught.exception), vars(error))
        for field, value in vars(error).items():
            self.assertIs(type(getattr(caught.exception, field)), type(value))

    def assert_examples(self, text, *modules):
        """That each line behind >>> gives what the next line tells, with all names of these modules."""
        names = {}
        for module in ("errors", "webs") + modules:
            names.update(vars(importlib.import_module("littlewebs." + module)))
        lines = text.strip().splitlines()
        for at, line in enumerate(lines):
            if line.startswith(">>> "):
                told = lines[at + 1] if at + 1 < len(lines) else ">>> "
                with self.subTest(example=line):
                    self.assert_example(line[4:], told, names)

    def assert_example(self, source, told, names):
        if told.startswith(">>> "):
            exec(source, names)
        elif told.startswith("raises "):
            self.assert_error(eval(told[7:], names), eval, source, names)
        else:
            self.assertEqual(repr(eval(source, names)), told)

    def assert_signatures(self, module, told):
        """That each name stands in its file, with these parameters."""
        defined = importlib.import_module("littlewebs." + module)
        for name, parameters in told.items():
            thing = getattr(defined, name)
            self.assertEqual(list(inspect.signature(thing).parameters), parameters.split())
            self.assertEqual(thing.__module__, defined.__name__)
            self.assertEqual(thing.__name__, name)


def some_web(chance, places, colours=COLOURS, often=0.5):
    """A web of so many places, in which so often two are tied."""
    pairs = [(one, other) for other in range(places) for one in range(other) if chance.random() < often]
    return Web(places, [(one, other, chance.choice(colours)) for one, other in pairs])


def some_webs(seed, many, most, colours=COLOURS):
    """Many webs, the same ones for the same seed, of one to most places, with few and with many ties."""
    chance = random.Random(seed)
    found = []
    for _ in range(many):
        own = chance.sample(colours, chance.randint(1, len(colours)))
        found.append(some_web(chance, chance.randint(1, most), own, chance.choice((0, 0.2, 0.4, 0.6, 0.8, 1))))
    return found


def mixed_up(chance, web):
    """The web with its places in another order."""
    order = list(range(web.places))
    chance.shuffle(order)
    return web.renamed(order)


def way(many, colour="a"):
    """A way of so many places."""
    return Web(many, [(at, at + 1, colour) for at in range(many - 1)])


def ring(many, colour="a"):
    """A round of so many places."""
    return Web(many, [(at, (at + 1) % many, colour) for at in range(many)])


def full(many, colour="a"):
    """A web in which all places are tied."""
    return Web(many, [(one, other, colour) for other in range(many) for one in range(other)])


def lines(many, steps, colour="a"):
    """So many places in a ring, each tied to those so many steps ahead and behind."""
    pairs = {tuple(sorted((at, (at + step) % many))) for at in range(many) for step in steps}
    return Web(many, [(one, other, colour) for one, other in sorted(pairs)])


class PlainSpan:
    """Rows of fractions, and whether a further one is a sum of multiples of them."""

    def __init__(self):
        self.rows = []

    def widened(self, row):
        row = [Fraction(worth) for worth in row]
        for at, ahead in self.rows:
            row = [worth - row[at] * other for worth, other in zip(row, ahead)]
        for at, worth in enumerate(row):
            if worth:
                self.rows.append((at, [other / worth for other in row]))
                return True
        return False


def words_in(letters, most):
    """All words of these letters of at most so many letters, as they are ordered."""
    return ["".join(word) for many in range(most + 1) for word in itertools.product(letters, repeat=many)]


def plain_kept(letters, row_of):
    """The words whose rows are no sums of multiples of those of words ahead, all words gone through."""
    span, found, many = PlainSpan(), [], 0
    while True:
        fresh = [word for word in map("".join, itertools.product(letters, repeat=many)) if span.widened(row_of(word))]
        if not fresh:
            return tuple(found)
        found, many = found + fresh, many + 1
