"""What the words of other parties do to a party.

Each effect returns two lists: what the party says, and what it offers.
"""

from turnpike.channel.end import copy_end, put_in
from turnpike.money.locks import was_opened
from turnpike.money.splices import sums_of
from turnpike.money.steps import Draft, first_proposes
from turnpike.party.knowing import tidying
from turnpike.party.member import end_of
from turnpike.party.needs import covers_with
from turnpike.party.offering import bid, learn_paid, propose_step, step_word


def hear_word(member, sender, word):
    """Hear the word from the sender."""
    kind = word[0]
    channel = word[1][0] if kind in ("opening", "splice") else word[1]
    end = end_of(member, channel)
    if end is None or sender != end.peer():
        return ([], [])
    effect = _EFFECTS[kind]
    return effect(member, end, word)


def _hear_opening(member, end, word):
    opening = word[1]
    if opening != end.opening or end.there:
        return ([], [])
    own, others = put_in(end)
    if own > 0:
        return ([], bid(member, ("open", opening)))
    if others > 0:
        return ([(end.peer(), word)], [])
    return ([], [])


def _hear_step(member, end, word):
    _, channel, number, step = word
    answer = [(end.peer(), ("answer", channel, number))]
    if number == end.last[1] and first_proposes(number) != end.as_first:
        return (answer, [])
    if end.there and number == end.last[1] + 1 and _accept(member, end, step):
        return (answer, [])
    return ([], [])


def _accept(member, end, step):
    """Accept the step and return True, or change nothing and return False."""
    # The step is tried on a copy, for the needs behind it are known only then.
    heard = copy_end(end)
    if not heard.hear_step(member.settings, member.height, member.receipts, step):
        return False
    if not _pays_in_time(member, end, step) or not covers_with(member, heard):
        return False
    end.last = heard.last
    learn_paid(member, step)
    return True


def _pays_in_time(member, end, step):
    """Tell whether all "paid" moves of the step, which exists, are in time."""
    draft = Draft(end.last, end.footing.cover())
    for move in step:
        if move[0] == "paid" and not _is_in_time(member, end.opening[0], draft.locks[move[1]]):
            return False
        draft.make(move)
    return True


def _is_in_time(member, channel, lock):
    """Tell whether the party has time to get what it has given on as this lock of the channel."""
    for _, out_channel, lock_in, lock_out in member.given:
        if out_channel == channel and lock_out == lock:
            late = member.height + member.settings.margin > lock_in[2]
            if late and not was_opened(lock_in, member.receipts):
                return False
    return True


def _hear_answer(_, end, word):
    end.hear_answer(word[2])
    return ([], [])


def _hear_splice(member, end, word):
    splice = word[1]
    if splice not in end.footing.splices:
        return ([], [])
    if _asks(end, splice):
        return ([], bid(member, ("splice", splice)))
    return ([(end.peer(), word)], [])


def _asks(end, splice):
    """Tell whether it is the party of this end that asks the ledger for the splice."""
    first_in, first_out, second_in, _ = sums_of(splice)
    if first_in == 0 and second_in == 0:
        return (first_out > 0) == end.as_first
    return (first_in if end.as_first else second_in) > 0


def _hear_turn(member, end, _):
    move = tidying(member, end)
    step = () if move is None else (move,)
    if propose_step(member, end, step):
        return ([step_word(end)], [])
    return ([], [])


_EFFECTS = {
    "opening": _hear_opening,
    "step": _hear_step,
    "answer": _hear_answer,
    "splice": _hear_splice,
    "turn": _hear_turn,
}
