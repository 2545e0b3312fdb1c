"""Papers: an answer, and what shows it."""


def fixed(value):
    """The value with each list in it as a tuple, all the way in through lists and tuples."""
    if isinstance(value, (list, tuple)):
        return tuple([fixed(item) for item in value])
    return value


def _are_equal(one, other):
    """Whether two values, one of them a paper at least, are papers of the same class, word and parts."""
    return type(one) is type(other) and one.word == other.word and one.parts == other.parts


class Paper:
    """A paper with a word and parts."""

    def __init__(self, word, *parts):
        self.word = word
        self.parts = fixed(parts)

    def __eq__(self, other):
        return _are_equal(self, other)

    def __bool__(self):
        return True


class Denial(Paper):
    """A paper that says no."""

    def __init__(self, word, *parts):
        Paper.__init__(self, word, *parts)

    def __eq__(self, other):
        return _are_equal(self, other)

    def __bool__(self):
        return False
