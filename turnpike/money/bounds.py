"""Bounds of waiting for a ledger that others keep full."""

from turnpike.ranges import GREATEST_AMOUNT, GREATEST_ROOM, check_range


def wait_budget(money, room, fee):
    """Return how many blocks this much money can fill with things of this fee."""
    check_range("the money", money, 0, GREATEST_AMOUNT)
    check_range("the room", room, 1, GREATEST_ROOM)
    check_range("the fee", fee, 1, GREATEST_AMOUNT)
    return money // (room * fee)


def wait_bound(money, room, fee):
    """Return within how many blocks a thing with this fee that stays ready is done."""
    return wait_budget(money, room, fee) + 1
