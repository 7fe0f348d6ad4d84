"""The limit of a search."""

from byteshape.errors import TooMany


def require_few(many, limit):
    """Raises TooMany if there are more than the limit."""
    if many > limit:
        raise TooMany(limit)
