"""Steps: tuples of moves that lead from a state to the next one."""

from turnpike.money.keys import key_of

MOST_LOCKS = 8


def first_proposes(number):
    """Tell whether the state with this number is proposed by the first end."""
    return number % 2 == 1


def next_state(state, moves, *, cover=(0, 0)):
    """Return the next state by the step, or None if the step does not exist."""
    channel, number, _, _, _, final = state
    if final:
        return None
    draft = Draft(state, cover)
    for move in moves:
        if not draft.make(move):
            return None
    if draft.by_first:
        first, second = draft.own, draft.others
    else:
        first, second = draft.others, draft.own
    return (channel, number + 1, first, second, tuple(draft.locks), draft.closed)


class Draft:
    """What the moves of one step have made so far of a state that is not final."""

    def __init__(self, state, cover):
        _, number, first, second, locks, final = state
        self.by_first = first_proposes(number + 1)
        if self.by_first:
            self.own, self.others = first, second
            self.own_cover = cover[0]
        else:
            self.own, self.others = second, first
            self.own_cover = cover[1]
        self.locks = list(locks)
        self.closed = final

    def make(self, move):
        """Make the move and return True, or change nothing and return False if its condition does not hold."""
        word = move[0]
        if word == "lock":
            return self._add_lock(move)
        if word == "paid":
            return self._take_paid(move)
        if word == "dropped":
            return self._drop(move)
        if word == "back":
            return self._take_back(move)
        if word == "transfer":
            return self._transfer(move)
        return self._finish()

    def _can_spend(self, amount):
        return not self.closed and 1 <= amount <= self.own + self.own_cover

    def _lock_at(self, place, from_first):
        """Return the lock at the place if there is one that comes from this end, otherwise None."""
        if place < 0 or place >= len(self.locks):
            return None
        lock = self.locks[place]
        if lock[3] != from_first:
            return None
        return lock

    def _add_lock(self, move):
        _, key, amount, deadline = move
        if not self._can_spend(amount) or len(self.locks) >= MOST_LOCKS:
            return False
        self.own -= amount
        self.locks.append((key, amount, deadline, self.by_first))
        return True

    def _take_paid(self, move):
        _, place, secret = move
        lock = self._lock_at(place, not self.by_first)
        if lock is None or lock[0] != key_of(secret):
            return False
        del self.locks[place]
        self.own += lock[1]
        return True

    def _drop(self, move):
        _, place = move
        lock = self._lock_at(place, not self.by_first)
        if lock is None:
            return False
        del self.locks[place]
        self.others += lock[1]
        return True

    def _take_back(self, move):
        _, place = move
        lock = self._lock_at(place, self.by_first)
        if lock is None:
            return False
        del self.locks[place]
        self.own += lock[1]
        return True

    def _transfer(self, move):
        _, amount = move
        if not self._can_spend(amount):
            return False
        self.own -= amount
        self.others += amount
        return True

    def _finish(self):
        if self.locks or self.closed:
            return False
        self.closed = True
        return True
