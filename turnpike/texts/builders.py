"""Objects from their trees. Each function returns a new object, or None if the tree is not that of one."""

from turnpike.channel.end import End
from turnpike.channel.footing import Footing
from turnpike.ledger.book import Book
from turnpike.ledger.ledger import Ledger
from turnpike.ledger.vault import Vault
from turnpike.money.settings import Settings
from turnpike.party.member import Member
from turnpike.party.party import Party
from turnpike.texts.forms import (
    is_end_tree, is_ledger_tree, is_member_tree, is_party_tree, is_settings_tree, is_town_tree, is_vault_tree,
)
from turnpike.town.town import town_with


def settings_from(tree):
    """Return new settings with the tree, or None."""
    return _build_settings(tree) if is_settings_tree(tree) else None


def end_from(tree):
    """Return a new end with the tree, or None."""
    return _build_end(tree) if is_end_tree(tree) else None


def member_from(tree):
    """Return a new member with the tree, or None."""
    return _build_member(tree) if is_member_tree(tree) else None


def party_from(tree):
    """Return a new party with the tree, or None."""
    return _build_party(tree) if is_party_tree(tree) else None


def vault_from(tree):
    """Return a new channel with the tree, or None."""
    return _build_vault(tree) if is_vault_tree(tree) else None


def ledger_from(tree):
    """Return a new ledger with the tree, or None."""
    return _build_ledger(tree) if is_ledger_tree(tree) else None


def town_from(tree):
    """Return a new town with the tree, or None."""
    return _build_town(tree) if is_town_tree(tree) else None


def _build_settings(tree):
    fee, lead, margin, delay, far, least, farthest, reveal_lead, base, per_mille, gap = tree
    return Settings(
        fee=fee, lead=lead, margin=margin, delay=delay, far=far, least=least, farthest=farthest,
        reveal_lead=reveal_lead, base=base, per_mille=per_mille, gap=gap,
    )


def _build_end(tree):
    opening, as_first, last, step, following, frozen, leaving, footing_tree, there = tree
    end = End(opening, as_first=as_first)
    end.last = last
    end.step = step
    end.next = following
    end.frozen = frozen
    end.leaving = leaving
    end.footing = _build_footing(footing_tree)
    end.there = there
    return end


def _build_footing(tree):
    sums, taken, splices = tree
    footing = Footing()
    footing.sums = sums
    footing.taken = taken
    footing.splices = list(splices)
    return footing


def _build_member(tree):
    number, settings_tree, height, receipts, purse_known, ends = tree[:6]
    given, payments, invoices, secrets, noted_keys, had, tag, pending, bids = tree[6:]
    member = Member(number, _build_settings(settings_tree))
    member.height = height
    member.receipts = dict(receipts)
    member.purse_known = purse_known
    member.ends = [_build_end(end_tree) for end_tree in ends]
    member.given = list(given)
    member.payments = list(payments)
    member.invoices = list(invoices)
    member.secrets = list(secrets)
    member.noted_keys = list(noted_keys)
    member.had = list(had)
    member.tag = tag
    member.pending = pending
    member.bids = list(bids)
    return member


def _build_party(tree):
    now_tree, kept_tree, awake = tree
    now = _build_member(now_tree)
    party = Party(now.number, now.settings)
    party.now = now
    party.kept = _build_member(kept_tree)
    party.awake = awake
    return party


def _build_vault(tree):
    opening, sums, splices, least, published, since = tree
    return Vault(opening, sums=sums, splices=splices, least=least, published=published, since=since)


def _build_book(tree):
    purses, vault_trees, receipts, ended, done, height, burnt = tree
    book = Book(list(purses))
    vaults = [_build_vault(vault_tree) for vault_tree in vault_trees]
    book.vaults = {vault.opening[0]: vault for vault in vaults}
    book.receipts = dict(receipts)
    book.ended = list(ended)
    book.done = list(done)
    book.height = height
    book.burnt = burnt
    return book


def _build_ledger(tree):
    book_tree, room, waiting = tree
    ledger = Ledger([], room=room)
    ledger.book = _build_book(book_tree)
    ledger.waiting = list(waiting)
    return ledger


def _build_town(tree):
    ledger_tree, party_trees, letters, shown, hands, things = tree
    town = town_with(_build_ledger(ledger_tree), [_build_party(party_tree) for party_tree in party_trees])
    town.letters = list(letters)
    town.shown = list(shown)
    town.hands = list(hands)
    town.things = list(things)
    return town
