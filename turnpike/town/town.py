"""Towns: a ledger, honest parties, and others who do what they like.

Things happen in a town by deeds alone. Each effect of a deed raises its errors before it changes anything.
"""

from turnpike.errors import IsHonest, NoSuchHand, OutOfBounds, UnknownLetter, UnknownParty
from turnpike.ledger.ledger import Ledger, copy_ledger
from turnpike.ledger.things import KINDS_WITH_HANDS
from turnpike.party.party import Party, copy_party
from turnpike.town.deeds import check_deed

MOST_PARTIES = 8


class Town:
    """A ledger, honest parties by their numbers, letters under way, and what honest parties gave away."""

    def __init__(self, purses, members, *, room):
        self.ledger = Ledger(purses, room=room)
        _check_members(members)
        self.parties = {number: Party(number, settings) for number, settings in members}
        self.letters = []
        self.shown = []
        self.hands = []
        self.things = []

    def __iter__(self):
        return iter(self.letters)

    def __len__(self):
        return len(self.letters)

    def do(self, deed):
        """Do the deed; return the list of the things that a block did, and None for any other deed."""
        check_deed(deed)
        effect = _EFFECTS[deed[0]]
        return effect(self, deed)

    def can_offer(self, thing):
        """Tell whether others can offer the thing."""
        act, hands, payer, _, _ = thing
        if payer in self.parties and thing not in self.things:
            return False
        if act[0] not in KINDS_WITH_HANDS:
            return True
        return all([(hand, act) in self.hands for hand in hands if hand in self.parties])

    def fork(self):
        """Return a town that is equal now, and apart."""
        parties = [copy_party(party) for party in self.parties.values()]
        forked = town_with(copy_ledger(self.ledger), parties)
        forked.letters = list(self.letters)
        forked.shown = list(self.shown)
        forked.hands = list(self.hands)
        forked.things = list(self.things)
        return forked


def town_with(ledger, parties):
    """Return a town with this ledger and these parties, and nothing else so far."""
    members = [(party.now.number, party.now.settings) for party in parties]
    town = Town([], members, room=ledger.room)
    town.ledger = ledger
    town.parties = {party.now.number: party for party in parties}
    return town


def _offer(town, deed):
    thing = deed[1]
    if not town.can_offer(thing):
        raise NoSuchHand("an honest party has not given its hand on the thing, or has not offered it")
    town.ledger.offer(thing)


def _say(town, deed):
    _, sender, receiver, word = deed
    if sender in town.parties:
        raise IsHonest(f"party {sender} is honest")
    _bring(town, sender, receiver, word)


def _deliver(town, deed):
    sender, receiver, word = _letter_at(town, deed[1])
    del town.letters[deed[1]]
    _bring(town, sender, receiver, word)


def _lose(town, deed):
    _letter_at(town, deed[1])
    del town.letters[deed[1]]


def _copy(town, deed):
    town.letters.append(_letter_at(town, deed[1]))


def _block(town, _):
    did = town.ledger.block()
    acts = [thing[0] for thing in did]
    town.shown.extend([act[1] for act in acts if act[0] == "reveal"])
    return did


def _tell(town, deed):
    party = _party_of(town, deed[1])
    unknown = [secret for secret in town.shown if secret not in party.now.secrets]
    _take(town, deed[1], party.tell(town.ledger.view(), unknown))


def _wish(town, deed):
    _, number, wish = deed
    _take(town, number, _party_of(town, number).wish(wish))


def _stop(town, deed):
    _party_of(town, deed[1]).stop()


_EFFECTS = {
    "offer": _offer,
    "say": _say,
    "deliver": _deliver,
    "lose": _lose,
    "copy": _copy,
    "block": _block,
    "tell": _tell,
    "wish": _wish,
    "stop": _stop,
}


def _check_members(members):
    if len(members) < 1 or len(members) > MOST_PARTIES:
        raise OutOfBounds(f"there are not 1 to {MOST_PARTIES} members")
    if len({number for number, _ in members}) < len(members):
        raise OutOfBounds("two members have one number")


def _letter_at(town, place):
    if place < 0 or place >= len(town.letters):
        raise UnknownLetter(f"there is no letter at position {place}")
    return town.letters[place]


def _party_of(town, number):
    if number not in town.parties:
        raise UnknownParty(f"party {number} is not honest")
    return town.parties[number]


def _bring(town, sender, receiver, word):
    """Let the receiver hear the word, if it is an honest party."""
    if receiver in town.parties:
        _take(town, receiver, town.parties[receiver].hear(sender, word))


def _take(town, number, found):
    """Take what the honest party says and offers, and the hands that it has given now."""
    words, offered = found
    for receiver, word in words:
        town.letters.append((number, receiver, word))
    for thing in offered:
        town.ledger.offer(thing)
        town.things.append(thing)
    for act in _signed_acts(town.parties[number].now):
        if (number, act) not in town.hands:
            town.hands.append((number, act))


def _signed_acts(member):
    """Return the list of the acts on which the party has given its hand, as far as it keeps them."""
    acts = []
    for end in member.ends:
        acts.append(("open", end.opening))
        acts.extend([("publish", state) for state in end.standing()])
        acts.extend([("splice", splice) for splice in end.footing.splices])
    return acts
