"""What the channels of a ledger would pay, if they were paid out now."""

from turnpike.ledger.vault import ends_of, shares
from turnpike.money.locks import was_opened


def outlook(ledger, number):
    """Return what would become of the locks, and what each end would get, or None if no state is published."""
    vault = ledger.channel(number)
    if vault is None or vault.published is None:
        return None
    _, _, _, _, locks, _ = vault.published
    fates = [_fate_of(lock, ledger.book) for lock in locks]
    first, second = shares(vault, ledger.book.receipts)
    return (fates, first, second)


def holds(ledger, party):
    """Return what the party has in its purse and would get from channels with a published state."""
    amount = ledger.purse(party)
    for vault in ledger.book.vaults.values():
        if vault.published is not None:
            # A party that is both ends gets both parts.
            for end, part in zip(ends_of(vault), shares(vault, ledger.book.receipts)):
                if end == party:
                    amount += part
    return amount


def _fate_of(lock, book):
    """Return the height of the receipt that opens the lock, "back" or "waits"."""
    key, _, deadline, _ = lock
    if was_opened(lock, book.receipts):
        return book.receipts[key]
    if deadline < book.height:
        return "back"
    return "waits"
