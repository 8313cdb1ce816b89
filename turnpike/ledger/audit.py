"""Audits: whether a ledger did what entries tell."""

from turnpike.ledger.ledger import Ledger


def audit(purses, entries, *, room):
    """Return the index of the first entry that tells of other things than its block does, or None.

    An entry is a pair of the list of the things that were offered, and the list of the pairs of payer and tag
    of the things that the block did.
    """
    ledger = Ledger(purses, room=room)
    for index, (things, pairs) in enumerate(entries):
        for thing in things:
            ledger.offer(thing)
        did = [(payer, tag) for _, _, payer, _, tag in ledger.block()]
        if did != pairs:
            return index
    return None
