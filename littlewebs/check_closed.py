"""Whether papers on the traces of all words are right."""

from littlewebs.closed import MOST_CLOSED, Closed, Trace, alike_traces
from littlewebs.pairs import need_pair
from littlewebs.words import is_word_in, trace_of


def shows_traces(one, other, letters, value):
    """Whether the value is the Closed of just the kept words, or a Trace of a word with unlike traces."""
    need_pair(one, other, letters, MOST_CLOSED)
    if type(value) == Closed:
        return _are_words_in(value.words, letters) and alike_traces(one, other, letters) == value
    if type(value) == Trace:
        return is_word_in(value.letters, letters) and trace_of(one, value.letters) != trace_of(other, value.letters)
    return False


def _are_words_in(value, letters):
    """Whether any value is a tuple of words in these letters."""
    return isinstance(value, tuple) and all([is_word_in(word, letters) for word in value])
