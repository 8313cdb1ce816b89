"""Watchers: they act on the ledger for a party that is silent for long."""

from turnpike.money.keys import key_of
from turnpike.ranges import GREATEST_AMOUNT, check_range
from turnpike.watch.due import secret_is_due, state_is_due


class Watcher:
    """Keeps states and secrets, and offers those that are due in the name of a party of its own."""

    def __init__(self, party, *, fee):
        check_range("the fee", fee, 1, GREATEST_AMOUNT)
        self.party = party
        self.fee = fee
        self.next_tag = 0
        self._duties = []
        self._reveals = []

    @property
    def duties(self):
        """The pairs of a state and the hands on it, in order."""
        return list(self._duties)

    @property
    def reveals(self):
        """The tuples of a secret, the first height to show it, and the height from which on it is too late."""
        return list(self._reveals)

    def keep(self, state, hands):
        """Keep the state and return True, or return False if one that is at least as new is kept."""
        channel, number, _, _, _, _ = state
        for kept, _ in self._duties:
            if kept[0] == channel and kept[1] >= number:
                return False
        self.drop(channel)
        self._duties.append((state, hands))
        return True

    def reveal(self, secret, start, last):
        """Keep the secret, to be shown from the height start on and before the height last."""
        others = [each for each in self._reveals if each[0] != secret]
        self._reveals = others + [(secret, start, last)]

    def drop(self, channel):
        """Forget the state of the channel and return True, or return False if none is kept."""
        others = [duty for duty in self._duties if duty[0][0] != channel]
        found = len(others) < len(self._duties)
        self._duties = others
        return found

    def tick(self, view):
        """Be told a view; return the list of the things that the watcher offers."""
        things = []
        for act, hands in self._due(view):
            if not self._is_offered(view.waiting + things, act, hands):
                things.append((act, hands, self.party, self.fee, self.next_tag))
                self.next_tag += 1
        return things

    def _due(self, view):
        """Return the list of the pairs of an act and its hands that are due."""
        states = [(("publish", state), hands) for state, hands in self._duties if state_is_due(view, state)]
        secrets = [
            (("reveal", secret), ()) for secret, start, last in self._reveals
            if secret_is_due(view, secret, start, last)
        ]
        return states + secrets

    def _is_offered(self, things, act, hands):
        """Tell whether one of the things does for the watcher what the act would do."""
        for other, other_hands, payer, _, _ in things:
            if payer == self.party and other_hands == hands and _does_the_same(other, act):
                return True
        return False


def copy_watcher(watcher):
    """Return an equal new watcher."""
    copied = Watcher(watcher.party, fee=watcher.fee)
    copied.next_tag = watcher.next_tag
    for state, hands in watcher.duties:
        copied.keep(state, hands)
    for secret, start, last in watcher.reveals:
        copied.reveal(secret, start, last)
    return copied


def _does_the_same(other, act):
    """Tell whether both acts publish equal states, or show secrets with one key."""
    if other[0] == "reveal" and act[0] == "reveal":
        return key_of(other[1]) == key_of(act[1])
    return other == act
