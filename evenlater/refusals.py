"""How a function refuses a parameter."""

from evenlater.errors import NotUsable


def need(fine, word):
    """Refuse the parameter called word unless it is fine."""
    if not fine:
        raise NotUsable(word, -1)
