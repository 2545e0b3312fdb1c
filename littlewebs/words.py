"""Words: strings of letters that are done from place to place, and what counts them."""

from littlewebs.columns import column_of, diagonal_of, unit_columns, word_ahead
from littlewebs.errors import BadWord
from littlewebs.needs import COLOURS, need_few_places, need_place
from littlewebs.web_needs import need_web
from littlewebs.webs import MOST_PLACES, Web

LETTERS = ("a", "b", "c", "d", "A", "B", "C", "D")
MOST_LETTERS = 80


def is_word(value):
    """Whether any value is a word."""
    return isinstance(value, str) and len(value) <= MOST_LETTERS and all([letter in LETTERS for letter in value])


def are_letters(value):
    """Whether any value is a string of at most four unlike letters."""
    return is_word(value) and len(value) <= 4 and len(set(value)) == len(value)


def sum_of(web, word):
    """The sum of the word in the web."""
    _need_web_and_word(web, word)
    return sum(column_of(web, word))


def trace_of(web, word):
    """The trace of the word in the web."""
    _need_web_and_word(web, word)
    return diagonal_of([word_ahead(web, word, unit) for unit in unit_columns(web.places)])


def walks(web, word, place):
    """The walks of the word from a place of the web."""
    _need_web_and_word(web, word)
    need_place(place, web.places)
    return column_of(web, word)[place]


def little_of(word):
    """The little web of the word."""
    need_word(word)
    need_few_places(len(word) + 1, MOST_PLACES)
    ties = []
    here = 0
    for fresh, letter in enumerate(word, start=1):
        ties.append((here, fresh, letter.lower()))
        if letter in COLOURS:
            here = fresh
    return Web(len(word) + 1, ties)


def round_of(word):
    """The round of a word of three colours or more."""
    need_word(word)
    if len(word) < 3 or not all([letter in COLOURS for letter in word]):
        raise BadWord("word")
    need_few_places(len(word), MOST_PLACES)
    return Web(len(word), [(at, (at + 1) % len(word), letter) for at, letter in enumerate(word)])


def is_word_in(value, letters):
    """Whether any value is a word in these letters."""
    return is_word(value) and all([letter in letters for letter in value])


def need_word(value):
    """Raise if the value, passed as word, is no word."""
    if not is_word(value):
        raise BadWord("word")


def _need_web_and_word(web, word):
    """Raise if the one is no web, or the other one no word."""
    need_web(web, "web")
    need_word(word)
