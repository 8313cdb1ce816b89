"""What a thing that is ready does to the book of a ledger."""

from turnpike.ledger.reasons import takes
from turnpike.ledger.vault import Vault, ends_of, shares
from turnpike.money.keys import key_of
from turnpike.money.splices import sums_with


def carry_out(book, thing):
    """Do the thing, which is ready."""
    act, _, payer, fee, tag = thing
    for party, amount in takes(book, thing).items():
        # Nothing that is taken makes a purse, and a party without one is asked for nothing.
        if amount > 0:
            book.purses[party] -= amount
    book.burnt += fee
    book.done.append((payer, tag))
    effect = _EFFECTS[act[0]]
    effect(book, act)


def _pay(book, act):
    _, to, amount = act
    book.give(to, amount)


def _open_channel(book, act):
    opening = act[1]
    book.vaults[opening[0]] = Vault(opening)


def _publish(book, act):
    state = act[1]
    channel, _, _, _, _, final = state
    vault = book.vaults[channel]
    if vault.published is None:
        vault.since = book.height
    vault.published = state
    if final:
        _pay_out(book, channel)


def _settle(book, act):
    _pay_out(book, act[1])


def _splice(book, act):
    splice = act[1]
    channel, _, since, _, first_in, first_out, second_in, second_out = splice
    vault = book.vaults[channel]
    vault.money += first_in + second_in - first_out - second_out
    vault.sums = sums_with(vault.sums, splice)
    vault.splices += 1
    vault.least = max(vault.least, since)
    _give_ends(book, vault, first_out, second_out)


def _reveal(book, act):
    book.receipts[key_of(act[1])] = book.height


_EFFECTS = {
    "pay": _pay,
    "open": _open_channel,
    "publish": _publish,
    "settle": _settle,
    "splice": _splice,
    "reveal": _reveal,
}


def _pay_out(book, channel):
    """Pay out the channel, which has a published state."""
    vault = book.vaults[channel]
    first_amount, second_amount = shares(vault, book.receipts)
    del book.vaults[channel]
    book.ended.append(channel)
    _give_ends(book, vault, first_amount, second_amount)


def _give_ends(book, vault, first_amount, second_amount):
    """Give both ends their amounts."""
    first, second = ends_of(vault)
    # The second end comes first, which decides the order of new purses.
    book.give(second, second_amount)
    book.give(first, first_amount)
