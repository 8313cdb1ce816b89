"""Objects as trees. A dict is the tuple of its pairs, a list the tuple of its items."""


def settings_tree(settings):
    """Return the tree of the settings."""
    return (
        settings.fee, settings.lead, settings.margin, settings.delay, settings.far, settings.least,
        settings.farthest, settings.reveal_lead, settings.base, settings.per_mille, settings.gap,
    )


def end_tree(end):
    """Return the tree of the end of a channel."""
    return (
        end.opening, end.as_first, end.last, end.step, end.next, end.frozen, end.leaving,
        _footing_tree(end.footing), end.there,
    )


def member_tree(member):
    """Return the tree of what a party knows and keeps."""
    return (
        member.number, settings_tree(member.settings), member.height, tuple(member.receipts.items()),
        member.purse_known, tuple([end_tree(end) for end in member.ends]), tuple(member.given),
        tuple(member.payments), tuple(member.invoices), tuple(member.secrets), tuple(member.noted_keys),
        tuple(member.had), member.tag, member.pending, tuple(member.bids),
    )


def party_tree(party):
    """Return the tree of the party."""
    return (member_tree(party.now), member_tree(party.kept), party.awake)


def vault_tree(vault):
    """Return the tree of the channel on the ledger."""
    return (vault.opening, vault.sums, vault.splices, vault.least, vault.published, vault.since)


def ledger_tree(ledger):
    """Return the tree of the ledger."""
    return (_book_tree(ledger.book), ledger.room, tuple(ledger.waiting))


def town_tree(town):
    """Return the tree of the town."""
    return (
        ledger_tree(town.ledger), tuple([party_tree(party) for party in town.parties.values()]),
        tuple(town.letters), tuple(town.shown), tuple(town.hands), tuple(town.things),
    )


def _footing_tree(footing):
    return (footing.sums, footing.taken, tuple(footing.splices))


def _book_tree(book):
    return (
        tuple(book.purses.items()), tuple([vault_tree(vault) for vault in book.vaults.values()]),
        tuple(book.receipts.items()), tuple(book.ended), tuple(book.done), book.height, book.burnt,
    )
