"""Whether papers on the sums of all words are right."""

from littlewebs.led import MOST_LED, Led, Unlike
from littlewebs.pairs import need_pair
from littlewebs.tables import is_table, leads
from littlewebs.words import is_word_in, sum_of


def shows_sums(one, other, letters, value):
    """Whether the value is a Led of a table that leads, or an Unlike of a word of unlike sums."""
    need_pair(one, other, letters, MOST_LED)
    if type(value) == Led:
        return is_table(value.table) and leads(one, other, letters, value.table)
    if type(value) == Unlike:
        return is_word_in(value.letters, letters) and sum_of(one, value.letters) != sum_of(other, value.letters)
    return False
