"""States of a channel, and what they are worth.

A state is a tuple (channel, number, first, second, locks, final).
"""

from turnpike.money.locks import lock_shares


def opening_state(opening):
    """Return the state of the opening."""
    channel, _, _, first_in, second_in, _, _ = opening
    return (channel, 0, first_in, second_in, (), False)


def total(state):
    """Return the money of the state."""
    _, _, first, second, locks, _ = state
    return first + second + sum([amount for _, amount, _, _ in locks])


def worth(state, receipts):
    """Return what the state is worth to the first end and to the second end."""
    _, _, first, second, locks, _ = state
    to_first, to_second = lock_shares(locks, receipts)
    return (first + to_first, second + to_second)
