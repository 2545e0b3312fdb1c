"""Values of all kinds, for tests of what any value may be passed to."""

from littlewebs.errors import WebError
from littlewebs.papers import Denial, Paper

class Alike:
    """What says that it equals everything."""

    def __eq__(self, other):
        return True


TRUTHS = (True, False)

INTEGERS = (0, 1, -1, 7, 10 ** 399, -10 ** 399)

# A dict, a set and the papers have no hash, and an object() equals itself alone.
OTHERS = (
    None, 0.0, 1.0, 2.5, float("nan"), float("inf"), 1j, "", "a", "1", b"", b"1", {}, {1: 2}, {1, 2}, frozenset([1]),
    range(3), object(), int, len, Paper("note", 1), Denial("note"), WebError(),
)

ROWS = ([], (), [1], (1, 2), [1, [2, (3, [])]], ((), []), [None], [True])

ANY = TRUTHS + INTEGERS + OTHERS + ROWS
