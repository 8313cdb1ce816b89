"""Channels on the ledger."""

from turnpike.money.states import total, worth


class Vault:
    """A channel on the ledger."""

    def __init__(self, opening, *, sums=(0, 0, 0, 0), splices=0, least=0, published=None, since=None):
        self.opening = opening
        self.sums = sums
        self.splices = splices
        self.least = least
        self.published = published
        self.since = since
        first_change, second_change = _changes(sums)
        self.money = _money_of(opening) + first_change + second_change


def free_of(vault, state):
    """Return what is free of the two ends in the state, with the sums of the channel."""
    _, _, first, second, _, _ = state
    first_change, second_change = _changes(vault.sums)
    return (first + first_change, second + second_change)


def fits(vault, state):
    """Tell whether the state fits the channel."""
    first, second = free_of(vault, state)
    return total(state) == _money_of(vault.opening) and first >= 0 and second >= 0


def shares(vault, receipts):
    """Return what the two ends get if the channel, which has a published state, is paid out."""
    first_worth, _ = worth(vault.published, receipts)
    first_change, _ = _changes(vault.sums)
    first = min(first_worth + first_change, vault.money)
    return (first, vault.money - first)


def copy_vault(vault):
    """Return an equal new vault."""
    copied = Vault(
        vault.opening, sums=vault.sums, splices=vault.splices, least=vault.least,
        published=vault.published, since=vault.since,
    )
    copied.money = vault.money
    return copied


def _money_of(opening):
    """Return what both ends put in with the opening."""
    _, _, _, first_in, second_in, _, _ = opening
    return first_in + second_in


def _changes(sums):
    """Return by how much the sums have changed what each of the two ends has."""
    first_in, first_out, second_in, second_out = sums
    return (first_in - first_out, second_in - second_out)
