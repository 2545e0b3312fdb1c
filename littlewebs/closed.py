"""Traces of all words: whether all closed words are counted alike in two webs."""

from littlewebs.columns import diagonal_of, unit_columns
from littlewebs.kept import kept_words
from littlewebs.pairs import need_pair
from littlewebs.papers import Denial, Paper

MOST_CLOSED = 6


class Closed(Paper):
    """All words have equal traces, as these, the kept ones, have."""

    def __init__(self, words):
        Paper.__init__(self, "closed", words)
        self.words = self.parts[0]


class Trace(Denial):
    """The word of these letters has unlike traces."""

    def __init__(self, letters):
        Denial.__init__(self, "trace", letters)
        self.letters = self.parts[0]


def alike_traces(one, other, letters):
    """The Closed of the kept words, or the Trace of the first word with unlike traces."""
    need_pair(one, other, letters, MOST_CLOSED)
    units = unit_columns(one.places) + unit_columns(other.places)
    kept = kept_words([one] * one.places + [other] * other.places, units, letters)
    for word, columns in kept:
        if diagonal_of(columns[:one.places]) != diagonal_of(columns[one.places:]):
            return Trace(word)
    return Closed([word for word, _ in kept])
