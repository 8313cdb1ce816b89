"""Views: copies of what a ledger has."""

from turnpike.ledger.book import Book, copy_book
from turnpike.ledger.things import channel_of


class View:
    """A copy of a book and of the things that wait."""

    def __init__(self, book, waiting):
        copied = copy_book(book)
        self.height = copied.height
        self.purses = copied.purses
        self.vaults = copied.vaults
        self.receipts = copied.receipts
        self.ended = copied.ended
        self.done = copied.done
        self.waiting = list(waiting)

    def purse(self, party):
        """Return the amount in the purse of the party."""
        return self.purses.get(party, 0)

    def only_for(self, party, channels):
        """Return the view for the party with these numbers of channels."""
        waiting = [thing for thing in self.waiting if thing[2] == party]
        numbers = list(channels) + [channel_of(thing[0]) for thing in waiting]
        book = Book([pair for pair in self.purses.items() if pair[0] == party])
        book.vaults = {number: vault for number, vault in self.vaults.items() if number in numbers}
        book.receipts = self.receipts
        book.ended = [number for number in self.ended if number in numbers]
        book.done = [pair for pair in self.done if pair[0] == party]
        book.height = self.height
        # The new view copies all of this.
        return View(book, waiting)
