"""What attempts to send over a route teach about the ways.

An outcome is ("passed",), ("lacks", place) or ("refuses", place).
"""

from turnpike.errors import TooMuchMoney
from turnpike.ranges import GREATEST_AMOUNT
from turnpike.routes.asking import check_sending
from turnpike.routes.ways import limit_of, loads


def learn(limits, route, amount, outcome):
    """Return the list of the limits after an attempt with this outcome to send so that the amount arrives."""
    check_sending(route, limits, amount)
    if max([amount] + loads(route, amount)) > GREATEST_AMOUNT:
        raise TooMuchMoney(f"the load of a way is more than {GREATEST_AMOUNT}")
    return limits_after(limits, route, amount, outcome)


def limits_after(limits, route, amount, outcome):
    """Return the list of the limits after the outcome, however many limits there are."""
    if outcome[0] == "passed":
        channels = [way[0] for way in route]
        return [limit for limit in limits if limit[0] not in channels]
    word, place = outcome
    if place >= len(route):
        return list(limits)
    carried = loads(route, amount)
    after = limits
    for way, load in zip(route[:place], carried):
        channel, giver, sure, below = _limit_for(after, way)
        after = _with_first(after, (channel, giver, max(sure, load), below))
    channel, giver, sure, below = _limit_for(after, route[place])
    if word == "refuses":
        below = 0
    elif below is None or below > carried[place]:
        below = carried[place]
    return _with_first(after, (channel, giver, sure, below))


def _limit_for(limits, way):
    """Return the limit for the way, a new one if there is none."""
    channel, giver, _, _, _ = way
    limit = limit_of(limits, channel, giver)
    if limit is None:
        return (channel, giver, 0, None)
    return limit


def _with_first(limits, limit):
    """Return the list of the limits with this one at the front, in place of the one for its channel and giver."""
    return [limit] + [each for each in limits if each[:2] != limit[:2]]
