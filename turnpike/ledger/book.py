"""The book of a ledger: what it knows, except for the things that wait."""

from turnpike.ledger.vault import copy_vault


class Book:
    """Purses, channels, receipts, and what has ended, was done and was burnt."""

    def __init__(self, purses):
        self.purses = dict(purses)
        self.vaults = {}
        self.receipts = {}
        self.ended = []
        self.done = []
        self.height = 0
        self.burnt = 0

    def purse(self, party):
        """Return the amount in the purse of the party."""
        return self.purses.get(party, 0)

    def give(self, party, amount):
        """Put the amount into the purse of the party, which has one from then on."""
        self.purses[party] = self.purse(party) + amount

    def sum_of_money(self):
        """Return all money in purses and channels."""
        return sum(self.purses.values()) + sum([vault.money for vault in self.vaults.values()])


def copy_book(book):
    """Return an equal new book."""
    copied = Book(list(book.purses.items()))
    copied.vaults = {number: copy_vault(vault) for number, vault in book.vaults.items()}
    copied.receipts = dict(book.receipts)
    copied.ended = list(book.ended)
    copied.done = list(book.done)
    copied.height = book.height
    copied.burnt = book.burnt
    return copied
