"""Deeds: what can happen in a town."""

from turnpike.errors import InvalidDeed

# How many items a deed with this word has, the word counted.
ITEMS_OF_DEEDS = {
    "offer": 2, "say": 4, "deliver": 2, "lose": 2, "copy": 2, "block": 1, "tell": 2, "wish": 3, "stop": 2,
}


def check_deed(deed):
    """Raise InvalidDeed if the tuple has not the form of a deed."""
    if len(deed) == 0 or deed[0] not in ITEMS_OF_DEEDS:
        raise InvalidDeed("the tuple does not begin with the word of a deed")
    if len(deed) != ITEMS_OF_DEEDS[deed[0]]:
        raise InvalidDeed(f"the deed {deed[0]} has another number of items")
