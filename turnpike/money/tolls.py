"""Tolls, and the legs of a payment over several channels.

A toll is a tuple (base, per_mille, gap).
"""

from turnpike.errors import OutOfBounds, TooMuchMoney
from turnpike.ranges import GREATEST_AMOUNT

MOST_TOLLS = 20


def must_come_in(toll, amount):
    """Return what must come in for the amount to go out."""
    base, per_mille, _ = toll
    # Adding 999 before the division rounds the quotient up.
    return amount + base + (amount * per_mille + 999) // 1000


def may_give(toll, height, inner, outer):
    """Tell whether the lock inner, which came in, may be given on as the lock outer."""
    _, _, gap = toll
    inner_key, inner_amount, inner_deadline, _ = inner
    outer_key, outer_amount, outer_deadline, _ = outer
    return (
        inner_key == outer_key
        and outer_amount >= 1
        and inner_amount >= must_come_in(toll, outer_amount)
        and inner_deadline >= outer_deadline + gap
        and outer_deadline > height
    )


def legs(amount, deadline, tolls):
    """Return the pairs of an amount and a deadline by which the amount arrives at the deadline."""
    if len(tolls) > MOST_TOLLS:
        raise OutOfBounds(f"there are more than {MOST_TOLLS} tolls")
    found = unbounded_legs(amount, deadline, tolls)
    if max([each for each, _ in found]) > GREATEST_AMOUNT:
        raise TooMuchMoney(f"the amount of a leg is more than {GREATEST_AMOUNT}")
    return found


def unbounded_legs(amount, deadline, tolls):
    """Return the legs, however many there are and however great they become."""
    found = [(amount, deadline)]
    for toll in reversed(tolls):
        _, _, gap = toll
        amount = must_come_in(toll, amount)
        deadline = deadline + gap
        found.append((amount, deadline))
    return found[::-1]
