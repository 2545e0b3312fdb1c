"""Kept words: those of which something is no sum of multiples of what it is of words ahead."""

from littlewebs.columns import put_ahead
from littlewebs.spans import Span


def kept_words(webs, columns, letters):
    """The words in these letters that are kept, as they are ordered, each with its columns.

    The columns of the word without letters are told, each with the web whose tables are multiplied with it. A word is
    kept if its columns, behind one another, are no sum of multiples of those of words ahead.
    """
    span = Span()
    kept = []
    found = [("", columns)]
    while found:
        fresh = [(word, own) for word, own in found if span.widen([worth for column in own for worth in column])]
        kept.extend(fresh)
        # A word that is not kept is not kept with a letter put ahead, either.
        found = [
            (letter + word, [put_ahead(web, letter, column) for web, column in zip(webs, own)])
            for letter in letters for word, own in fresh
        ]
    return kept
