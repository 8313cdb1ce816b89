"""Honest parties: plain state machines that are told of blocks, hear words and do wishes."""

from turnpike.errors import NotNow
from turnpike.party.hearing import hear_word
from turnpike.party.member import Member, copy_member
from turnpike.party.telling import do_duties, see, talk
from turnpike.party.wishing import do_wish


class Party:
    """An honest party: as it is, and as it was saved last."""

    def __init__(self, number, settings):
        self.now = Member(number, settings)
        self.kept = Member(number, settings)
        self.awake = True

    def tell(self, view, secrets):
        """Be told a view and some secrets; return what the party says and what it offers."""
        self.awake = True
        see(self.now, view, secrets)
        things = do_duties(self.now, view)
        words = talk(self.now)
        if words or things:
            self._save()
        return (words, things)

    def hear(self, sender, word):
        """Hear the word from the sender; return what the party says and what it offers."""
        if not self.awake:
            return ([], [])
        words, things = hear_word(self.now, sender, word)
        self._save()
        return (words, things)

    def wish(self, wanted):
        """Do the wish; return what the party says and what it offers."""
        if not self.awake:
            raise NotNow("the party is asleep")
        words = do_wish(self.now, wanted)
        if words is None:
            raise NotNow(f"the wish {wanted[0]} cannot be done now")
        self._save()
        return (words, [])

    def stop(self):
        """Become again what was saved last, and fall asleep."""
        self.now = copy_member(self.kept)
        self.awake = False

    def _save(self):
        self.kept = copy_member(self.now)


def copy_party(party):
    """Return an equal new party."""
    copied = Party(party.now.number, party.now.settings)
    copied.now = copy_member(party.now)
    copied.kept = copy_member(party.kept)
    copied.awake = party.awake
    return copied
