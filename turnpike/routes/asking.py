"""The bounds of what is asked about routes. Each function raises OutOfBounds."""

from turnpike.errors import OutOfBounds
from turnpike.ranges import GREATEST_AMOUNT, check_range

MOST_WAYS = 60
MOST_LIMITS = 60
MOST_HOPS = 12


def check_request(ways, limits, request):
    """Check the ways, the limits and the request by which a route is looked for."""
    _, _, amount, hops = request
    check_sending(ways, limits, amount)
    check_range("the number of hops", hops, 1, MOST_HOPS)


def check_sending(ways, limits, amount):
    """Check the ways, the limits and the amount that is sent."""
    check_range("the number of ways", len(ways), 0, MOST_WAYS)
    check_range("the number of limits", len(limits), 0, MOST_LIMITS)
    if len({(channel, giver) for channel, giver, _, _ in limits}) < len(limits):
        raise OutOfBounds("two limits are for one channel and one giver")
    check_range("the amount", amount, 1, GREATEST_AMOUNT)
