"""The ledger: a book, the things that wait, and blocks with little room."""

from turnpike.errors import InvalidPurses, TooMuchMoney
from turnpike.ledger.acts import carry_out
from turnpike.ledger.book import Book, copy_book
from turnpike.ledger.reasons import reasons
from turnpike.ledger.vault import copy_vault
from turnpike.ledger.view import View
from turnpike.ranges import GREATEST_AMOUNT, GREATEST_ROOM, check_range

MOST_PURSES = 50


class Ledger:
    """A ledger whose blocks take at most so many things as it has room."""

    def __init__(self, purses, *, room):
        _check_purses(purses)
        check_range("the room", room, 1, GREATEST_ROOM)
        self.book = Book(purses)
        self.room = room
        self.waiting = []

    @property
    def height_now(self):
        """The height."""
        return self.book.height

    @property
    def burnt_so_far(self):
        """The sum of what was burnt."""
        return self.book.burnt

    @property
    def all_money(self):
        """All money in purses and channels."""
        return self.book.sum_of_money()

    def offer(self, thing):
        """Let the thing wait behind the others."""
        self.waiting.append(thing)

    def block(self):
        """Make a block, and return the list of the things that it did, in order."""
        book = self.book
        book.height += 1
        did = []
        while len(did) < self.room:
            place = self._next_place()
            if place is None:
                break
            thing = self.waiting[place]
            del self.waiting[place]
            carry_out(book, thing)
            did.append(thing)
        return did

    def _next_place(self):
        """Return the place of the thing that is done next, or None if no waiting thing is ready."""
        best = None
        for place, thing in enumerate(self.waiting):
            # Of equal fees the earlier one stays the best.
            if best is None or thing[3] > self.waiting[best][3]:
                if not reasons(self.book, thing):
                    best = place
        return best

    def purse(self, party):
        """Return the amount in the purse of the party."""
        return self.book.purse(party)

    def channel(self, number):
        """Return a copy of the channel, or None if it is not on the ledger."""
        if number not in self.book.vaults:
            return None
        return copy_vault(self.book.vaults[number])

    def __contains__(self, number):
        return number in self.book.vaults

    def reasons_against(self, thing):
        """Return the words that speak against the thing at the present height."""
        return reasons(self.book, thing)

    def view(self):
        """Return the view of the ledger."""
        return View(self.book, self.waiting)

    def view_for(self, party, channels):
        """Return the view for the party with these numbers of channels."""
        return self.view().only_for(party, channels)


def copy_ledger(ledger):
    """Return an equal new ledger."""
    # A ledger that has made blocks may have more purses than a new one, so its purses are not checked again.
    copied = Ledger([], room=ledger.room)
    copied.book = copy_book(ledger.book)
    copied.waiting = list(ledger.waiting)
    return copied


def _check_purses(purses):
    if len(purses) > MOST_PURSES:
        raise InvalidPurses(f"there are more than {MOST_PURSES} purses")
    if len({party for party, _ in purses}) < len(purses):
        raise InvalidPurses("two purses are of one party")
    for _, amount in purses:
        if amount < 0 or amount > GREATEST_AMOUNT:
            raise InvalidPurses(f"an amount is not from 0 to {GREATEST_AMOUNT}")
    if sum([amount for _, amount in purses]) > GREATEST_AMOUNT:
        raise TooMuchMoney(f"the amounts are together more than {GREATEST_AMOUNT}")
