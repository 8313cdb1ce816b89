"""Values that several tests build."""

from turnpike.money.settings import Settings

PLAIN_SETTINGS = {
    "fee": 5, "lead": 10, "margin": 11, "delay": 12, "far": 13, "least": 14,
    "farthest": 15, "reveal_lead": 16, "base": 17, "per_mille": 18, "gap": 19,
}


def settings_with(**numbers):
    """Return settings with these numbers, and with plain ones otherwise."""
    return Settings(**{**PLAIN_SETTINGS, **numbers})


def secret_with_key(key):
    """Return the secret from 0 to 4294967295 that has the key (point 8)."""
    return (key - 12345) * pow(1103515245, -1, 2 ** 32) % 2 ** 32


def thing(act, hands=(1, 2), payer=9, fee=5, tag=0):
    """Return a thing."""
    return (act, hands, payer, fee, tag)


def vault_fields(vault):
    """Return all that a channel on the ledger tells."""
    return (
        vault.opening, vault.sums, vault.splices, vault.least, vault.published, vault.since, vault.money,
    )


def book_fields(book):
    """Return all that a book tells, in its order."""
    return (
        list(book.purses.items()), [(number, vault_fields(vault)) for number, vault in book.vaults.items()],
        list(book.receipts.items()), list(book.ended), list(book.done), book.height, book.burnt,
    )


def ledger_fields(ledger):
    """Return all that a ledger tells."""
    return (book_fields(ledger.book), ledger.room, list(ledger.waiting))


def view_fields(view):
    """Return all that a view tells, in its order."""
    return {
        "purses": list(view.purses.items()),
        "vaults": [(number, vault_fields(vault)) for number, vault in view.vaults.items()],
        "receipts": list(view.receipts.items()), "ended": list(view.ended), "done": list(view.done),
        "height": view.height, "waiting": list(view.waiting),
    }


def footing_fields(footing):
    """Return all that a footing tells."""
    return (footing.sums, footing.taken, list(footing.splices))
