"""Channels on the ledger."""

from turnpike.money.splices import changes_of
from turnpike.money.states import total, worth


class Vault:
    """A channel on the ledger."""

    def __init__(self, opening, *, sums=(0, 0, 0, 0), splices=0, least=0, published=None, since=None):
        self.opening = opening
        self.sums = sums
        self.splices = splices
        self.least = least
        self.published = published
        self.since = since
        first_change, second_change = changes_of(sums)
        self.money = _money_of(opening) + first_change + second_change


def ends_of(vault):
    """Return the two parties of the channel."""
    _, first, second, _, _, _, _ = vault.opening
    return (first, second)


def delay_end(vault):
    """Return the last height at which the delay of the channel runs, which has a published state."""
    _, _, _, _, _, delay, _ = vault.opening
    return vault.since + delay


def free_of(vault, state):
    """Return what is free of the two ends in the state, with the sums of the channel."""
    _, _, first, second, _, _ = state
    first_change, second_change = changes_of(vault.sums)
    return (first + first_change, second + second_change)


def fits(vault, state):
    """Tell whether the state fits the channel."""
    first, second = free_of(vault, state)
    return total(state) == _money_of(vault.opening) and first >= 0 and second >= 0


def shares(vault, receipts):
    """Return what the two ends get if the channel, which has a published state, is paid out."""
    first_worth, _ = worth(vault.published, receipts)
    first_change, _ = changes_of(vault.sums)
    first = min(first_worth + first_change, vault.money)
    return (first, vault.money - first)


def copy_vault(vault):
    """Return an equal new vault."""
    copied = Vault(
        vault.opening, sums=vault.sums, splices=vault.splices, least=vault.least,
        published=vault.published, since=vault.since,
    )
    copied.money = vault.money
    return copied


def _money_of(opening):
    """Return what both ends put in with the opening."""
    _, _, _, first_in, second_in, _, _ = opening
    return first_in + second_in
