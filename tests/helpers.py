"""Values that several tests build."""

from turnpike.channel.end import End, copy_end
from turnpike.ledger.book import Book
from turnpike.ledger.view import View
from turnpike.money.keys import key_of
from turnpike.money.settings import Settings
from turnpike.party.party import Party

# What the parties of these tests know at first, and two payments.
HEIGHT = 100
FEE = 5
SECRET = 5
KEY = key_of(SECRET)
OTHER = 6
OTHER_KEY = key_of(OTHER)
PLAIN_SETTINGS = {
    "fee": 5, "lead": 10, "margin": 11, "delay": 12, "far": 13, "least": 14,
    "farthest": 15, "reveal_lead": 16, "base": 17, "per_mille": 18, "gap": 19,
}


def settings_with(**numbers):
    """Return settings with these numbers, and with plain ones otherwise."""
    return Settings(**{**PLAIN_SETTINGS, **numbers})


def secret_with_key(key):
    """Return the secret from 0 to 4294967295 that has the key (point 8)."""
    return (key - 12345) * pow(1103515245, -1, 2 ** 32) % 2 ** 32


def thing(act, hands=(1, 2), payer=9, fee=5, tag=0):
    """Return a thing."""
    return (act, hands, payer, fee, tag)


def vault_fields(vault):
    """Return all that a channel on the ledger tells."""
    return (
        vault.opening, vault.sums, vault.splices, vault.least, vault.published, vault.since, vault.money,
    )


def book_fields(book):
    """Return all that a book tells, in its order."""
    return (
        list(book.purses.items()), [(number, vault_fields(vault)) for number, vault in book.vaults.items()],
        list(book.receipts.items()), list(book.ended), list(book.done), book.height, book.burnt,
    )


def ledger_fields(ledger):
    """Return all that a ledger tells."""
    return (book_fields(ledger.book), ledger.room, list(ledger.waiting))


def view_fields(view):
    """Return all that a view tells, in its order."""
    return {
        "purses": list(view.purses.items()),
        "vaults": [(number, vault_fields(vault)) for number, vault in view.vaults.items()],
        "receipts": list(view.receipts.items()), "ended": list(view.ended), "done": list(view.done),
        "height": view.height, "waiting": list(view.waiting),
    }


def footing_fields(footing):
    """Return all that a footing tells."""
    return (footing.sums, footing.taken, list(footing.splices))


def end_fields(end):
    """Return all that an end tells."""
    return (
        end.opening, end.as_first, end.last, end.step, end.next, end.frozen, end.leaving,
        footing_fields(end.footing), end.there,
    )


def settings_fields(settings):
    """Return the numbers of the settings."""
    return {name: getattr(settings, name) for name in PLAIN_SETTINGS}


def member_fields(member):
    """Return all that a member tells, in its order."""
    return {
        "number": member.number, "settings": settings_fields(member.settings), "height": member.height,
        "receipts": list(member.receipts.items()), "purse_known": member.purse_known,
        "ends": [end_fields(end) for end in member.ends], "given": list(member.given),
        "payments": list(member.payments), "invoices": list(member.invoices), "secrets": list(member.secrets),
        "noted_keys": list(member.noted_keys), "had": list(member.had), "tag": member.tag,
        "pending": member.pending, "bids": list(member.bids),
    }


def party_fields(party):
    """Return all that a party tells."""
    return (member_fields(party.now), member_fields(party.kept), party.awake)


def town_fields(town):
    """Return all that a town tells, in its order."""
    return (
        ledger_fields(town.ledger), [(number, party_fields(party)) for number, party in town.parties.items()],
        list(town.letters), list(town.shown), list(town.hands), list(town.things),
    )


def opening_with(channel=7, first=1, second=2, first_in=400, second_in=600, delay=10, until=1000):
    """Return an opening."""
    return (channel, first, second, first_in, second_in, delay, until)


def lock_with(key=KEY, amount=50, deadline=120, from_first=False):
    """Return a lock, by default one that goes to the first end."""
    return (key, amount, deadline, from_first)


def end_with(*locks, channel=7, as_first=True, number=0, final=False, there=True, opening=None, splices=()):
    """Return an end of party 1 with party 2, or party 1 as the second end, whose last state has these locks."""
    if opening is None:
        opening = opening_with(channel) if as_first else opening_with(channel, 2, 1)
    end = End(opening, as_first=as_first)
    first, second = opening[3:5]
    for _, amount, _, from_first in locks:
        first, second = (first - amount, second) if from_first else (first, second - amount)
    end.last = (opening[0], number, first, second, tuple(locks), final)
    end.there = there
    end.footing.splices.extend(splices)
    return end


def splice_with(
    channel=7, index=0, since=0, until=110, first_in=0, first_out=0, second_in=0, second_out=0,
):
    """Return a splice."""
    return (channel, index, since, until, first_in, first_out, second_in, second_out)


def party_with(*ends, number=1, height=HEIGHT, purse=10 ** 6, receipts=(), **settings):
    """Return a party that knows this height, this purse and these receipts, and has these ends."""
    party = Party(number, settings_with(**settings))
    for member in (party.now, party.kept):
        member.height = height
        member.purse_known = purse
        member.receipts.update(receipts)
        member.ends.extend([copy_end(end) for end in ends])
        member.had.extend([end.opening[0] for end in ends])
    return party


def view_with(*vaults, height=HEIGHT, purses=((1, 10 ** 6),), receipts=(), ended=(), done=(), waiting=()):
    """Return a view with these channels."""
    book = Book(list(purses))
    book.vaults.update({vault.opening[0]: vault for vault in vaults})
    book.receipts.update(receipts)
    book.ended.extend(ended)
    book.done.extend(done)
    book.height = height
    return View(book, list(waiting))
