"""What the wishes of a party do.

Each effect returns the list of what the party says, or changes nothing and returns None if the wish cannot be done.
"""

from turnpike.channel.end import End, comes_in, copy_end
from turnpike.money.keys import key_of
from turnpike.money.locks import was_opened
from turnpike.money.tolls import may_give
from turnpike.party.knowing import has_invoice, has_payment, key_is_free, secret_for
from turnpike.party.member import end_of
from turnpike.party.needs import covers_with
from turnpike.party.offering import propose_step, step_word


def do_wish(member, wish):
    """Do the wish and return the list of what the party says, or change nothing and return None."""
    effect = _EFFECTS[wish[0]]
    return effect(member, wish)


def _wish_open(member, wish):
    opening = wish[1]
    channel, first, second, _, _, delay, until = opening
    settings = member.settings
    if first == second or member.number not in (first, second) or channel in member.had:
        return None
    if delay < settings.delay or not member.height <= until <= member.height + settings.far:
        return None
    end = End(opening, as_first=member.number == first)
    if not covers_with(member, end):
        return None
    member.ends.append(end)
    member.had.append(channel)
    return [(end.peer(), ("opening", opening))]


def _wish_pay(member, wish):
    _, channel, key, amount, deadline = wish
    words = _propose_payment(member, channel, key, amount, deadline)
    if words is not None:
        end = end_of(member, channel)
        member.payments.append((channel, (key, amount, deadline, end.as_first)))
    return words


def _wish_give(member, wish):
    _, in_channel, place, out_channel, amount, deadline = wish
    end = end_of(member, in_channel)
    outer_end = end_of(member, out_channel)
    if in_channel == out_channel or end is None or outer_end is None or not end.there or end.frozen:
        return None
    inner = _closed_lock_in(member, end, place)
    if inner is None or not end.is_sure(inner) or has_payment(member, inner[0]):
        return None
    outer = (inner[0], amount, deadline, outer_end.as_first)
    if not may_give(member.settings.toll, member.height, inner, outer):
        return None
    words = _propose_payment(member, out_channel, inner[0], amount, deadline)
    if words is not None:
        member.given.append((in_channel, out_channel, inner, outer))
        member.noted_keys.append(inner[0])
    return words


def _wish_refuse(member, wish):
    _, channel, place = wish
    end = end_of(member, channel)
    if end is None:
        return None
    lock = _closed_lock_in(member, end, place)
    if lock is None or secret_for(member, lock) is not None:
        return None
    if (channel, lock) in [(in_channel, lock_in) for in_channel, _, lock_in, _ in member.given]:
        return None
    return _propose_move(member, end, ("dropped", place))


def _wish_transfer(member, wish):
    _, channel, amount = wish
    return _propose_move(member, end_of(member, channel), ("transfer", amount))


def _wish_finish(member, wish):
    end = end_of(member, wish[1])
    if end is None or len(end.footing.splices) > 0:
        return None
    return _propose_move(member, end, ("finish",))


def _wish_splice(member, wish):
    splice = wish[1]
    end = end_of(member, splice[0])
    if end is None or not end.there or end.frozen:
        return None
    if not end.may_sign(splice, member.height, member.settings.far):
        return None
    signed = copy_end(end)
    signed.sign(splice)
    if not covers_with(member, signed):
        return None
    end.sign(splice)
    return [(end.peer(), ("splice", splice))]


def _wish_leave(member, wish):
    end = end_of(member, wish[1])
    if end is None:
        return None
    end.leave()
    return []


def _wish_invoice(member, wish):
    _, secret, asked = wish
    key = key_of(secret)
    if has_invoice(member, key) or has_payment(member, key) or key in member.noted_keys:
        return None
    member.invoices.append((secret, asked))
    return []


_EFFECTS = {
    "open": _wish_open,
    "pay": _wish_pay,
    "give": _wish_give,
    "refuse": _wish_refuse,
    "transfer": _wish_transfer,
    "finish": _wish_finish,
    "splice": _wish_splice,
    "leave": _wish_leave,
    "invoice": _wish_invoice,
}


def _propose_payment(member, channel, key, amount, deadline):
    """Propose a lock for a payment of the party; return what it says, or None if it cannot."""
    if not key_is_free(member, key):
        return None
    if not member.height < deadline <= member.height + member.settings.farthest:
        return None
    return _propose_move(member, end_of(member, channel), ("lock", key, amount, deadline))


def _propose_move(member, end, move):
    """Propose a step of one move at the end, which may be None; return what the party says, or None if it cannot."""
    if end is None or not propose_step(member, end, (move,)):
        return None
    return [step_word(end)]


def _closed_lock_in(member, end, place):
    """Return the lock at the place of the last state if it goes to the party and was not opened, otherwise None."""
    locks = end.last[4]
    if place < 0 or place >= len(locks):
        return None
    lock = locks[place]
    if not comes_in(end, lock) or was_opened(lock, member.receipts):
        return None
    return lock
