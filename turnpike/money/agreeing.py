"""Steps of the other end that an honest end agrees to."""

from turnpike.money.locks import was_opened
from turnpike.money.steps import Draft


def agrees(settings, height, receipts, state, moves, *, cover=(0, 0)):
    """Tell whether an honest end with these settings agrees to the step of the other end."""
    _, _, _, _, _, final = state
    if final:
        return False
    draft = Draft(state, cover)
    for move in moves:
        # A move may remove the very lock by which it is judged.
        locks = list(draft.locks)
        if not draft.make(move) or not _agrees_to_move(settings, height, receipts, locks, move):
            return False
    return True


def _agrees_to_move(settings, height, receipts, locks, move):
    """Tell whether the end agrees to a move that can be made in a state with these locks."""
    word = move[0]
    if word == "lock":
        _, _, amount, deadline = move
        return amount >= settings.least and deadline <= height + settings.farthest
    if word == "paid":
        lock = locks[move[1]]
        return height + settings.reveal_lead <= lock[2] or was_opened(lock, receipts)
    if word == "back":
        lock = locks[move[1]]
        return lock[2] < height and not was_opened(lock, receipts)
    return True
