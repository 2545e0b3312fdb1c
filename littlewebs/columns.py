"""Columns of integers, one for each place of a web, and the tables of letters."""


def put_ahead(web, letter, column):
    """The letter's table times the column."""
    colour = letter.lower()
    places = range(web.places)
    if letter == colour:
        return [sum([column[near] for near in web.neighbours(place, colour)]) for place in places]
    return [web.degree(place, colour) * column[place] for place in places]


def word_ahead(web, word, column):
    """The word's table times the column."""
    for letter in reversed(word):
        column = put_ahead(web, letter, column)
    return column


def column_of(web, word):
    """For each place the walks of the word from there."""
    return word_ahead(web, word, [1] * web.places)


def met(column, other):
    """Two columns multiplied place by place and added up."""
    return sum([worth * beside for worth, beside in zip(column, other)])


def unit_columns(places):
    """The columns of the table of the word without letters: 1 on the diagonal, 0 elsewhere."""
    return [[int(place == at) for place in range(places)] for at in range(places)]


def diagonal_of(columns):
    """The diagonal of a table, told by its columns, added up."""
    return sum([column[at] for at, column in enumerate(columns)])
