"""What a party needs in its purse."""

from turnpike.channel.end import comes_in, put_in

FEES_OF_AN_END = 3


def needs(member):
    """Return the amount that the party needs in its purse."""
    return _needs_with(member, member.ends)


def covers(member):
    """Tell whether the purse, as the party knows it, covers the needs."""
    return member.purse_known >= needs(member)


def covers_with(member, end):
    """Tell whether the purse covers the needs with this end, in place of the one of its channel if there is one."""
    others = [each for each in member.ends if each.opening[0] != end.opening[0]]
    return member.purse_known >= _needs_with(member, others + [end])


def _needs_with(member, ends):
    fee = member.settings.fee
    return sum([_needs_of(end, fee) for end in ends]) + member.pending * fee


def _needs_of(end, fee):
    amount = fee * (FEES_OF_AN_END + _most_locks_in(end)) + end.footing.may_owe(end.as_first)
    if not end.there:
        own, _ = put_in(end)
        amount += own
    return amount


def _most_locks_in(end):
    """Return how many locks come in, in that state that can come to stand which has most of them."""
    return max([len([lock for lock in state[4] if comes_in(end, lock)]) for state in end.standing()])
