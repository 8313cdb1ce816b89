"""Objects that have something of everything, and their trees."""

from tests.helpers import settings_with
from turnpike.channel.end import End
from turnpike.ledger.ledger import Ledger
from turnpike.ledger.vault import Vault
from turnpike.party.member import Member
from turnpike.party.party import Party
from turnpike.town.town import Town

LOCK = (5, 40, 100, True)
OTHER_LOCK = (6, 1, 2, False)
STATE = (7, 3, -5, 65, (LOCK, OTHER_LOCK), False)
NEXT = (7, 4, -5, 106, (OTHER_LOCK,), True)
STEP = (("paid", 0, 9), ("finish",))
OPENING = (7, 1, 2, 40, 60, 10, 100)
OTHER_OPENING = (8, 1, 3, 0, 5, 11, 101)
SPLICE = (7, 1, 2, 300, 4, 5, 6, 7)
THING = (("publish", STATE), (1, 2), 9, 5, 0)
OTHER_THING = (("reveal", 9), (), 1, 5, 1)

# fee, lead, margin, delay, far, least, farthest, reveal_lead, base, per_mille, gap
SETTINGS_TREE = (5, 10, 11, 12, 13, 14, 15, 16, 17, 18, 19)
END_TREE = (OPENING, True, STATE, STEP, NEXT, True, False, ((1, 2, 3, 4), 6, (SPLICE, SPLICE)), True)
NEW_END_TREE = (
    OTHER_OPENING, False, (8, 0, 0, 5, (), False), None, None, False, True, ((0, 0, 0, 0), 0, ()), False,
)
MEMBER_TREE = (
    1, SETTINGS_TREE, 99, ((9, 3), (4, 98)), 1234, (END_TREE, NEW_END_TREE), ((7, 8, LOCK, OTHER_LOCK),),
    ((8, OTHER_LOCK), (7, LOCK)), ((21, 22), (20, 0)), (31, 30), (41, 40, 41), (7, 8), 51, 52,
    (("open", OPENING), ("splice", SPLICE)),
)
NEW_MEMBER_TREE = (1, SETTINGS_TREE, 0, (), 0, (), (), (), (), (), (), (), 0, 0, ())
PARTY_TREE = (MEMBER_TREE, NEW_MEMBER_TREE, False)
OTHER_PARTY_TREE = ((0, *NEW_MEMBER_TREE[1:]), (0, *MEMBER_TREE[1:]), True)
VAULT_TREE = (OPENING, (1, 2, 3, 4), 6, 2, STATE, 88)
NEW_VAULT_TREE = (OTHER_OPENING, (0, 0, 0, 0), 0, 0, None, None)
BOOK_TREE = (
    ((9, 500), (1, 0)), (NEW_VAULT_TREE, VAULT_TREE), ((4, 98), (9, 3)), (12, 11, 12), ((9, 1), (1, 0)), 99, 77,
)
LEDGER_TREE = (BOOK_TREE, 3, (THING, OTHER_THING, THING))
LETTERS = ((1, 2, ("step", 7, 4, STEP)), (9, 1, ("turn", 7)))
HANDS = ((1, ("open", OPENING)), (0, ("publish", STATE)))
TOWN_TREE = (LEDGER_TREE, (PARTY_TREE, OTHER_PARTY_TREE), LETTERS, (31, 30), HANDS, (OTHER_THING,))


def sample_settings():
    return settings_with()


def sample_end():
    """Return the end with END_TREE."""
    end = End(OPENING, as_first=True)
    end.last, end.step, end.next = STATE, STEP, NEXT
    end.frozen, end.there = True, True
    end.footing.sums, end.footing.taken, end.footing.splices = (1, 2, 3, 4), 6, [SPLICE, SPLICE]
    return end


def new_end():
    """Return the end with NEW_END_TREE."""
    end = End(OTHER_OPENING, as_first=False)
    end.leaving = True
    return end


def sample_member(number=1):
    """Return the member with MEMBER_TREE."""
    member = Member(number, sample_settings())
    member.height, member.purse_known, member.tag, member.pending = 99, 1234, 51, 52
    member.receipts.update({9: 3, 4: 98})
    member.ends.extend([sample_end(), new_end()])
    member.given.append((7, 8, LOCK, OTHER_LOCK))
    member.payments.extend([(8, OTHER_LOCK), (7, LOCK)])
    member.invoices.extend([(21, 22), (20, 0)])
    member.secrets.extend([31, 30])
    member.noted_keys.extend([41, 40, 41])
    member.had.extend([7, 8])
    member.bids.extend([("open", OPENING), ("splice", SPLICE)])
    return member


def sample_party():
    """Return the party with PARTY_TREE."""
    party = Party(1, sample_settings())
    party.now = sample_member()
    party.awake = False
    return party


def sample_vault():
    """Return the channel with VAULT_TREE."""
    return Vault(OPENING, sums=(1, 2, 3, 4), splices=6, least=2, published=STATE, since=88)


def sample_ledger():
    """Return the ledger with LEDGER_TREE."""
    ledger = Ledger([(9, 500), (1, 0)], room=3)
    book = ledger.book
    book.vaults.update({8: Vault(OTHER_OPENING), 7: sample_vault()})
    book.receipts.update({4: 98, 9: 3})
    book.ended.extend([12, 11, 12])
    book.done.extend([(9, 1), (1, 0)])
    book.height, book.burnt = 99, 77
    ledger.waiting.extend([THING, OTHER_THING, THING])
    return ledger


def sample_town():
    """Return the town with TOWN_TREE."""
    town = Town([], [(1, sample_settings()), (0, sample_settings())], room=3)
    town.ledger = sample_ledger()
    town.parties[1] = sample_party()
    town.parties[0].kept = sample_member(0)
    town.letters.extend(LETTERS)
    town.shown.extend([31, 30])
    town.hands.extend(HANDS)
    town.things.append(OTHER_THING)
    return town
