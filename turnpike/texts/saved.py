"""Saved texts of parties and towns."""

from turnpike.errors import InvalidText
from turnpike.party.party import Party
from turnpike.texts.builders import member_from, town_from
from turnpike.texts.objects import member_tree, town_tree
from turnpike.texts.trees import read_tree, write_tree

PARTY_HEAD = "turnpike party 1"
TOWN_HEAD = "turnpike town 1"


def party_text(party):
    """Return the saved text of the party: what was saved last."""
    return _text_of(PARTY_HEAD, member_tree(party.kept))


def town_text(town):
    """Return the saved text of the town."""
    return _text_of(TOWN_HEAD, town_tree(town))


def read_party(text):
    """Return a new party that is what was saved, and asleep."""
    member = member_from(_tree_of(PARTY_HEAD, text))
    if member is None:
        raise InvalidText(2)
    party = Party(member.number, member.settings)
    party.kept = member
    party.stop()
    return party


def read_town(text):
    """Return a new town with this saved text."""
    town = town_from(_tree_of(TOWN_HEAD, text))
    if town is None:
        raise InvalidText(2)
    return town


def _text_of(head, tree):
    return f"{head}\n{write_tree(tree)}\n"


def _tree_of(head, text):
    """Return the tree of a saved text with this head."""
    lines = text.split("\n")
    # Two lines with line feeds leave nothing behind the second line feed.
    if len(lines) != 3 or lines[0] != head or lines[2] != "":
        raise InvalidText(1)
    return read_tree(lines[1], line=2)
