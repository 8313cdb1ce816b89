"""Attempts to send over routes, which teach what the ways can carry."""

from turnpike.errors import OutOfBounds
from turnpike.ranges import check_range
from turnpike.routes.asking import check_request
from turnpike.routes.finding import cheapest_route
from turnpike.routes.learning import limits_after
from turnpike.routes.ways import loads

MOST_ATTEMPTS = 40


def try_routes(ways, balances, limits, request, *, attempts):
    """Return the list of the attempts, tuples of the route, what is sent and the outcome."""
    check_request(ways, limits, request)
    if len(balances) != len(ways):
        raise OutOfBounds("there are not as many balances as ways")
    check_range("the number of attempts", attempts, 1, MOST_ATTEMPTS)
    _, _, amount, _ = request
    by_way = _balances_by_way(ways, balances)
    tried = []
    for _ in range(attempts):
        route = cheapest_route(ways, limits, request)
        if route is None:
            break
        carried = loads(route, amount)
        outcome = _outcome_of(route, carried, by_way)
        tried.append((route, carried[0], outcome))
        if outcome[0] == "passed":
            break
        limits = limits_after(limits, route, amount, outcome)
    return tried


def _balances_by_way(ways, balances):
    """Return a dict from pairs of a channel and a giver to the balance of the first way that has them."""
    found = {}
    for way, balance in zip(ways, balances):
        channel, giver, _, _, _ = way
        if (channel, giver) not in found:
            found[(channel, giver)] = balance
    return found


def _outcome_of(route, carried, by_way):
    """Return the outcome of an attempt over the route whose ways carry these loads."""
    for place, way in enumerate(route):
        channel, giver, _, _, _ = way
        if by_way[(channel, giver)] < carried[place]:
            return ("lacks", place)
    return ("passed",)
