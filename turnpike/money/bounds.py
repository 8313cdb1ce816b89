"""Bounds of waiting for a ledger that others keep full."""

from turnpike.errors import OutOfBounds
from turnpike.ranges import GREATEST_AMOUNT, GREATEST_ROOM


def wait_budget(money, room, fee):
    """Return how many blocks this much money can fill with things of this fee."""
    _check_range("the money", money, 0, GREATEST_AMOUNT)
    _check_range("the room", room, 1, GREATEST_ROOM)
    _check_range("the fee", fee, 1, GREATEST_AMOUNT)
    return money // (room * fee)


def wait_bound(money, room, fee):
    """Return within how many blocks a thing with this fee that stays ready is done."""
    return wait_budget(money, room, fee) + 1


def _check_range(name, number, least, greatest):
    if number < least or number > greatest:
        raise OutOfBounds(f"{name} is not from {least} to {greatest}")
