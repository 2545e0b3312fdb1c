"""The errors of the package."""


class WebError(ValueError):
    """The base of all errors of the package."""


class BadWeb(WebError):
    """The part is no web."""

    def __init__(self, part):
        self.part = part


class BadLittle(WebError):
    """The part is no little web."""

    def __init__(self, part):
        self.part = part


class BadWord(WebError):
    """The part is no word, no letter, or no list of letters."""

    def __init__(self, part):
        self.part = part


class BadTable(WebError):
    """The part is no table of fractions."""

    def __init__(self, part):
        self.part = part


class BadLot(WebError):
    """The part is no lot of places."""

    def __init__(self, part):
        self.part = part


class BadNumber(WebError):
    """The part is no integer, no colour or no fraction, or it is out of bounds."""

    def __init__(self, part):
        self.part = part


class Misfit(WebError):
    """The part does not fit together with the rest."""

    def __init__(self, part):
        self.part = part


class Missing(WebError):
    """The value is none here; only classes below this one are raised."""

    def __init__(self, value):
        self.value = value


class NoPlace(Missing):
    """The value is no place here."""

    def __init__(self, value):
        Missing.__init__(self, value)


class Twice(WebError):
    """The value stands twice where all must be unlike."""

    def __init__(self, value):
        self.value = value


class TooMany(WebError):
    """There are more than most of what is told."""

    def __init__(self, what, most):
        self.what = what
        self.most = most


class BadText(WebError):
    """The item of the line cannot stand in the text."""

    def __init__(self, line, item):
        self.line = line
        self.item = item
