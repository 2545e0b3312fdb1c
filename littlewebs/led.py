"""Sums of all words: whether a table of fractions leads one web to another."""

from littlewebs.columns import met
from littlewebs.fractions import lowest
from littlewebs.kept import kept_words
from littlewebs.needs import need_few_places
from littlewebs.pairs import need_letters, need_pair
from littlewebs.papers import Denial, Paper
from littlewebs.spans import solved
from littlewebs.web_needs import need_web

MOST_LED = 12


class Led(Paper):
    """All words have equal sums, as this table leads."""

    def __init__(self, table):
        Paper.__init__(self, "led", table)
        self.table = self.parts[0]


class Unlike(Denial):
    """The word of these letters has unlike sums."""

    def __init__(self, letters):
        Denial.__init__(self, "unlike", letters)
        self.letters = self.parts[0]


def basis(web, letters):
    """The kept words of the web, as they are ordered."""
    need_web(web, "web")
    need_letters(letters)
    need_few_places(web.places, MOST_LED)
    return tuple([word for word, _ in kept_words([web], [[1] * web.places], letters)])


def alike_sums(one, other, letters):
    """The Led of the table told, or the Unlike of the first word of unlike sums."""
    need_pair(one, other, letters, MOST_LED)
    kept = kept_words([one, other], [[1] * one.places, [1] * other.places], letters)
    for word, (own, others) in kept:
        if sum(own) != sum(others):
            return Unlike(word)
    return Led(_table_told([own for _, (own, _) in kept], [others for _, (_, others) in kept]))


def _table_told(ones, others):
    """The table that makes the columns of the one web of those of the other one, and 0 of what is square to these."""
    products = [[met(column, beside) for beside in others] for column in others]
    rows, bottom = solved(products, others)
    return [[lowest(met(own, row), bottom) for row in zip(*rows)] for own in zip(*ones)]
