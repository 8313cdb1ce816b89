"""Locks: whether receipts open them, and to which end they go.

A lock is a tuple (key, amount, deadline, from_first).
"""


def was_opened(lock, receipts):
    """Tell whether the receipts open the lock."""
    key, _, deadline, _ = lock
    return key in receipts and receipts[key] <= deadline


def lock_shares(locks, receipts):
    """Return the amounts of the locks that go to the first end, and of those that go to the second."""
    first = 0
    second = 0
    for lock in locks:
        _, amount, _, from_first = lock
        # An opened lock changes sides, any other one goes back.
        if was_opened(lock, receipts) != from_first:
            first += amount
        else:
            second += amount
    return (first, second)
