"""What a party does when it is told a view of the ledger."""

from turnpike.channel.end import wants
from turnpike.ledger.things import channel_of
from turnpike.ledger.vault import delay_end
from turnpike.money.keys import key_of
from turnpike.party.knowing import known_secret, must_show, secret_for, tidying
from turnpike.party.member import learn
from turnpike.party.offering import offer, propose_step, step_word


def see(member, view, secrets):
    """Learn what the view and the secrets tell."""
    member.height = view.height
    member.receipts = dict(view.receipts)
    member.purse_known = view.purse(member.number)
    for secret in secrets:
        learn(member, secret)
    member.ends = [end for end in member.ends if _keeps(end, view)]
    for end in member.ends:
        if end.opening[0] in view.vaults:
            end.see(view.vaults[end.opening[0]], view.height)
            end.there = True
    member.pending = _count_pending(member, view)


def do_duties(member, view):
    """Do what is due; return the list of what the party offers."""
    duties = _list_duties(member, view)
    waiting = [thing[0] for thing in view.waiting if thing[2] == member.number]
    things = []
    for act in duties:
        if act not in waiting:
            waiting.append(act)
            things.append(offer(member, act))
    for act in duties:
        if act[0] == "reveal":
            learn(member, act[1])
    return things


def talk(member):
    """Say open steps once more, and tidy up; return the list of what the party says."""
    words = [step_word(end) for end in member.ends if not end.frozen and end.step is not None]
    for end in member.ends:
        # What one end learns can be of use to the ends behind it.
        words.extend(_tidy(member, end))
    return words


def _keeps(end, view):
    """Tell whether the party keeps the end, as it is before it sees its channel in this view."""
    channel, _, _, _, _, _, until = end.opening
    if channel in view.vaults:
        return view.vaults[channel].opening == end.opening
    return not end.there and channel not in view.ended and view.height <= until


def _count_pending(member, view):
    """Return how many tags of the party wait with things that may yet be done."""
    return len({
        tag for act, _, payer, _, tag in view.waiting
        if payer == member.number and (payer, tag) not in view.done and _may_yet_be_done(view, act)
    })


def _may_yet_be_done(view, act):
    kind = act[0]
    if kind == "pay":
        return True
    if kind == "reveal":
        return key_of(act[1]) not in view.receipts
    channel = channel_of(act)
    if kind == "open":
        return view.height <= act[1][6] and channel not in view.vaults and channel not in view.ended
    if channel not in view.vaults:
        return False
    if kind == "publish":
        return _may_yet_be_published(view.vaults[channel], act[1], view.height)
    return kind == "settle" or view.height <= act[1][3]


def _may_yet_be_published(vault, state, height):
    if vault.published is None:
        return True
    return vault.published[1] < state[1] and height <= delay_end(vault)


def _list_duties(member, view):
    duties = []
    for end in member.ends:
        if end.opening[0] in view.vaults:
            act = wants(end, view)
            if act is not None:
                duties.append(act)
        if end.there:
            duties.extend(_list_reveals(member, end))
    return duties


def _list_reveals(member, end):
    reveals = []
    for state in end.standing():
        for lock in state[4]:
            if must_show(member, end, lock):
                # An invoice is not shown for a lock that may never have stood.
                secret = secret_for(member, lock) if end.is_sure(lock) else known_secret(member, lock[0])
                if secret is not None:
                    reveals.append(("reveal", secret))
    return reveals


def _tidy(member, end):
    """Propose the tidying of the end, or ask for the turn; return the list of what the party says."""
    move = tidying(member, end)
    if move is None:
        return []
    if propose_step(member, end, (move,)):
        return [step_word(end)]
    if end.there and not end.is_busy() and not end.is_turn():
        return [(end.peer(), ("turn", end.opening[0]))]
    return []
