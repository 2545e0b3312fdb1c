"""What is raised for what is no web or no little web."""

from littlewebs.errors import BadLittle, BadWeb
from littlewebs.webs import Web

MOST_LITTLE = 7


def need_web(value, part):
    """Raise if the value, passed as this part, is no web."""
    if not isinstance(value, Web):
        raise BadWeb(part)


def need_little(value, part):
    """Raise if the value, passed as this part, is no little web."""
    if not isinstance(value, Web) or value.places > MOST_LITTLE:
        raise BadLittle(part)
