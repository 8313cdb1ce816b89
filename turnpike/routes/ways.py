"""Ways, limits, and the loads of a route.

A way is a tuple (channel, giver, taker, toll, most), a limit is a tuple (channel, giver, sure, below).
A route is a tuple of ways.
"""

from turnpike.money.tolls import unbounded_legs


def limit_of(limits, channel, giver):
    """Return the limit for the channel and the giver, or None."""
    for limit in limits:
        if limit[0] == channel and limit[1] == giver:
            return limit
    return None


def may_carry(way, amount, limits):
    """Tell whether the way may carry the amount, as far as the limits tell."""
    channel, giver, _, _, most = way
    if amount > most:
        return False
    limit = limit_of(limits, channel, giver)
    return limit is None or limit[3] is None or amount < limit[3]


def route_legs(route, amount, deadline):
    """Return the legs of a route of at least one way by which the amount arrives at the deadline."""
    # Nobody gives on over the first way, so its toll is not asked for.
    return unbounded_legs(amount, deadline, [toll for _, _, _, toll, _ in route[1:]])


def loads(route, amount):
    """Return the list of the loads of the ways by which the amount arrives."""
    if not route:
        return []
    return [load for load, _ in route_legs(route, amount, 0)]
