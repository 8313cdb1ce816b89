"""What a party may do with locks, as far as it knows."""

from turnpike.channel.end import comes_in
from turnpike.money.keys import key_of
from turnpike.money.locks import was_opened
from turnpike.party.member import end_of


def known_secret(member, key):
    """Return the secret with the key that the party knows, or None."""
    for secret in member.secrets:
        if key_of(secret) == key:
            return secret
    return None


def secret_for(member, lock):
    """Return the secret for the lock, or None."""
    key, amount, deadline, _ = lock
    for secret, asked in member.invoices:
        in_time = member.height + member.settings.reveal_lead <= deadline
        if key_of(secret) == key and amount >= asked and in_time:
            return secret
    return known_secret(member, key)


def must_show(member, end, lock):
    """Tell whether the secret of the lock must be shown on the ledger now."""
    soon = member.height < lock[2] <= member.height + member.settings.lead
    return soon and comes_in(end, lock) and not was_opened(lock, member.receipts)


def can_open(member, channel, lock):
    """Tell whether the lock can still be opened in the channel."""
    end = end_of(member, channel)
    if end is None or not any([lock in state[4] for state in end.standing()]):
        return False
    return lock[2] >= member.height or was_opened(lock, member.receipts)


def may_drop(member, end, lock):
    """Tell whether the lock may be dropped in the channel of the end."""
    if was_opened(lock, member.receipts) or secret_for(member, lock) is not None or has_invoice(member, lock[0]):
        return False
    outer = [
        (out_channel, lock_out) for in_channel, out_channel, lock_in, lock_out in member.given
        if in_channel == end.opening[0] and lock_in == lock
    ]
    return len(outer) > 0 and not any([can_open(member, channel, lock_out) for channel, lock_out in outer])


def has_invoice(member, key):
    """Tell whether an invoice of the party has the key."""
    return key in [key_of(secret) for secret, _ in member.invoices]


def has_payment(member, key):
    """Tell whether an own payment of the party has the key."""
    return key in [lock[0] for _, lock in member.payments]


def key_is_free(member, key):
    """Tell whether the party may send a payment with the key."""
    if key in member.noted_keys or has_invoice(member, key) or known_secret(member, key) is not None:
        return False
    own = [(channel, lock) for channel, lock in member.payments if lock[0] == key]
    return not any([
        was_opened(lock, member.receipts) or can_open(member, channel, lock) for channel, lock in own
    ])


def tidying(member, end):
    """Return the move by which the first lock that can go is removed, or None."""
    for place, lock in enumerate(end.last[4]):
        if comes_in(end, lock):
            move = _move_for_incoming(member, end, place, lock)
        else:
            move = _move_for_own(member, place, lock)
        if move is not None:
            return move
    return None


def _move_for_incoming(member, end, place, lock):
    secret = secret_for(member, lock)
    if secret is not None and (lock[2] >= member.height or was_opened(lock, member.receipts)):
        return ("paid", place, secret)
    if may_drop(member, end, lock):
        return ("dropped", place)
    return None


def _move_for_own(member, place, lock):
    if lock[2] < member.height and not was_opened(lock, member.receipts):
        return ("back", place)
    return None
