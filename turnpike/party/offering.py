"""Things that a party offers, and steps that it proposes."""

from turnpike.ledger.things import KINDS_WITH_HANDS, channel_of
from turnpike.party.member import end_of, learn
from turnpike.party.needs import needs


def offer(member, act):
    """Make a thing of the act, which the party offers, and return it."""
    thing = (act, _hands_for(member, act), member.number, member.settings.fee, member.tag)
    member.tag += 1
    member.pending += 1
    return thing


def bid(member, act):
    """Offer the act, unless the party has bidden it or lacks the money; return the list of what it offers."""
    if act in member.bids or member.purse_known < needs(member) + member.settings.fee:
        return []
    member.bids.append(act)
    return [offer(member, act)]


def propose_step(member, end, step):
    """Propose the step and return True, or change nothing and return False if the party cannot."""
    if not end.there or not end.propose(step):
        return False
    learn_paid(member, step)
    return True


def step_word(end):
    """Return what the party says of the open step of the end."""
    return (end.peer(), ("step", end.opening[0], end.next[1], end.step))


def learn_paid(member, step):
    """Learn the secrets of the "paid" moves of the step."""
    for move in step:
        if move[0] == "paid":
            learn(member, move[2])


def _hands_for(member, act):
    if act[0] not in KINDS_WITH_HANDS:
        return ()
    end = end_of(member, channel_of(act))
    # A party that was read from a text may keep a state of a channel of which it has no end.
    if end is None:
        return ()
    _, first, second, _, _, _, _ = end.opening
    return (first, second)
