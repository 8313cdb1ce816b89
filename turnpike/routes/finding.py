"""The cheapest route.

A request is a tuple (source, target, amount, hops).
"""

from turnpike.money.tolls import must_come_in
from turnpike.routes.asking import check_request
from turnpike.routes.ways import may_carry, route_legs


def find_route(ways, limits, request, deadline):
    """Return the cheapest route, what is sent over it, and its legs; or None if there is no route."""
    check_request(ways, limits, request)
    route = cheapest_route(ways, limits, request)
    if route is None:
        return None
    _, _, amount, _ = request
    found = route_legs(route, amount, deadline)
    return (route, found[0][0], found)


def cheapest_route(ways, limits, request):
    """Return the cheapest route, or None if there is none."""
    source, target, amount, hops = request
    if source == target:
        return None
    # For each party: what must arrive at it, and the rest of the route from it on.
    known = {target: (amount, ())}
    for _ in range(hops - 1):
        known = _after_round(ways, limits, source, known)
    best = None
    for way in ways:
        if way[1] == source and _counts(way, limits, known):
            if best is None or known[way[2]][0] < known[best[2]][0]:
                best = way
    if best is None:
        return None
    return (best,) + known[best[2]][1]


def _after_round(ways, limits, source, known):
    """Return what is known after one more round, which itself looks only at what was known before."""
    after = dict(known)
    for way in ways:
        _, giver, taker, toll, _ = way
        if giver != source and _counts(way, limits, known):
            arriving, rest = known[taker]
            asked = must_come_in(toll, arriving)
            if giver not in after or asked < after[giver][0]:
                after[giver] = (asked, (way,) + rest)
    return after


def _counts(way, limits, known):
    """Tell whether the way may carry what must arrive at its taker, as far as this is known."""
    _, _, taker, _, _ = way
    return taker in known and may_carry(way, known[taker][0], limits)
