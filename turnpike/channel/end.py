"""One end of a channel: what one party keeps of it."""

from turnpike.channel.footing import Footing, copy_footing
from turnpike.ledger.reasons import against_settle
from turnpike.money.agreeing import agrees
from turnpike.money.splices import sums_with
from turnpike.money.states import opening_state
from turnpike.money.steps import first_proposes, next_state
from turnpike.ranges import GREATEST_AMOUNT

MOST_OPEN_SPLICES = 4


class End:
    """What one party keeps of a channel."""

    def __init__(self, opening, *, as_first):
        self.opening = opening
        self.as_first = as_first
        self.last = opening_state(opening)
        self.step = None
        self.next = None
        self.frozen = False
        self.leaving = False
        self.footing = Footing()
        self.there = False

    def standing(self):
        """Return the list of the states that can come to stand."""
        if self.next is None:
            return [self.last]
        return [self.last, self.next]

    def is_busy(self):
        """Tell whether the end is frozen or has an open step."""
        return self.frozen or self.step is not None

    def is_turn(self):
        """Tell whether the next state is this end's to propose."""
        return first_proposes(self.last[1] + 1) == self.as_first

    def is_sure(self, lock):
        """Tell whether the lock is in each state that can come to stand."""
        return all([lock in state[4] for state in self.standing()])

    def peer(self):
        """Return the party of the other end."""
        _, first, second, _, _, _, _ = self.opening
        return second if self.as_first else first

    def propose(self, step):
        """Propose the step and return True, or change nothing and return False."""
        if self.is_busy() or not self.is_turn():
            return False
        following = next_state(self.last, step, cover=self.footing.cover())
        if following is None:
            return False
        self.step = step
        self.next = following
        return True

    def hear_step(self, settings, height, receipts, step):
        """Hear the step of the other end and return True, or change nothing and return False."""
        if self.is_busy() or self.is_turn():
            return False
        cover = self.footing.cover()
        if not agrees(settings, height, receipts, self.last, step, cover=cover):
            return False
        self.last = next_state(self.last, step, cover=cover)
        return True

    def hear_answer(self, number):
        """Hear the answer with this number and return True, or change nothing and return False."""
        if self.frozen or self.step is None or self.next[1] != number:
            return False
        self._close_step()
        return True

    def see(self, vault, height):
        """See the channel on the ledger."""
        self.footing.see(vault, height)
        if vault.published is None:
            return
        self.frozen = True
        # A state with this number needs the hand of the other end, so it knows the open step.
        if self.step is not None and vault.published[1] >= self.next[1]:
            self._close_step()

    def leave(self):
        """Leave the channel."""
        self.frozen = True
        self.leaving = True

    def may_sign(self, splice, height, far):
        """Tell whether the end may sign the splice at the height."""
        channel, index, since, until, _, _, _, _ = splice
        return (
            channel == self.opening[0]
            and index == self.footing.taken
            and len(self.footing.splices) < MOST_OPEN_SPLICES
            and since <= self.last[1]
            and height <= until <= height + far
            and self._bears(splice)
            and max(sums_with(self.footing.sums, splice)) <= GREATEST_AMOUNT
        )

    def sign(self, splice):
        """Sign the splice, which is open from then on."""
        self.footing.splices.append(splice)

    def _close_step(self):
        """Let the state of the open step be the last one."""
        self.last = self.next
        self.step = None
        self.next = None

    def _bears(self, splice):
        """Tell whether all states that can come to stand go on and are borne if the splice is open, too."""
        footing = copy_footing(self.footing)
        footing.splices.append(splice)
        cover = footing.cover()
        return all([not state[5] and _is_borne(state, cover) for state in self.standing()])


def copy_end(end):
    """Return an equal new end."""
    copied = End(end.opening, as_first=end.as_first)
    copied.last = end.last
    copied.step = end.step
    copied.next = end.next
    copied.frozen = end.frozen
    copied.leaving = end.leaving
    copied.footing = copy_footing(end.footing)
    copied.there = end.there
    return copied


def wants(end, view):
    """Return the act that the end wants of the ledger, on which its channel stands, or None."""
    channel = end.opening[0]
    vault = view.vaults[channel]
    if vault.published is None:
        return ("publish", end.last) if end.leaving else None
    if not against_settle(vault, view.height, view.receipts):
        return ("settle", channel)
    if vault.published[1] < end.last[1]:
        return ("publish", end.last)
    return None


def comes_in(end, lock):
    """Tell whether the lock comes from the other end."""
    return lock[3] != end.as_first


def put_in(end):
    """Return what the opening takes from the party of the end, and from its peer."""
    _, _, _, first_in, second_in, _, _ = end.opening
    return (first_in, second_in) if end.as_first else (second_in, first_in)


def _is_borne(state, cover):
    _, _, first, second, _, _ = state
    return first + cover[0] >= 0 and second + cover[1] >= 0
