"""Points 22 and 28: the book of a ledger, and who has a purse."""

import unittest

from tests.helpers import book_fields as fields
from turnpike.ledger.book import Book, copy_book
from turnpike.ledger.vault import Vault

MUCH = 10 ** 15
OPENING = (7, 1, 2, 40, 60, 10, 1000)


def full_book():
    """Return a book with something in each field."""
    book = Book([(3, 30), (1, 10)])
    book.vaults[7] = Vault(OPENING, sums=(5, 0, 0, 1), splices=1, least=2)
    book.vaults[4] = Vault((4, 1, 3, 1, 2, 3, 4), published=(4, 1, 1, 2, (), False), since=8)
    book.receipts[99] = 5
    book.receipts[12] = 6
    book.ended.extend([6, 5])
    book.done.extend([(3, 0), (1, 7)])
    book.height = 9
    book.burnt = 44
    return book


class BookTest(unittest.TestCase):
    def test_a_new_book(self):
        book = Book([(3, 30), (1, 10), (2, 0)])
        self.assertEqual(fields(book), ([(3, 30), (1, 10), (2, 0)], [], [], [], [], 0, 0))

    def test_the_kinds_of_the_fields(self):
        book = Book([(3, 30)])
        for name, kind in (
            ("purses", dict), ("vaults", dict), ("receipts", dict), ("ended", list), ("done", list),
            ("height", int), ("burnt", int),
        ):
            with self.subTest(name=name):
                self.assertIs(type(getattr(book, name)), kind)

    def test_no_purses(self):
        self.assertEqual(fields(Book([])), ([], [], [], [], [], 0, 0))

    def test_the_argument_is_not_kept(self):
        purses = [(3, 30), (1, 10)]
        book = Book(purses)
        book.give(3, 5)
        self.assertEqual(purses, [(3, 30), (1, 10)])
        purses.append((9, 9))
        self.assertEqual(book.purses, {3: 35, 1: 10})

    def test_two_books_share_nothing(self):
        one = Book([])
        other = Book([])
        one.vaults[7] = Vault(OPENING)
        one.receipts[1] = 1
        one.ended.append(1)
        one.done.append((1, 1))
        one.give(1, 1)
        self.assertEqual(fields(other), ([], [], [], [], [], 0, 0))


class PurseTest(unittest.TestCase):
    def test_a_purse(self):
        book = Book([(3, 30), (1, MUCH), (2, 0)])
        self.assertEqual([book.purse(party) for party in (1, 2, 3)], [MUCH, 0, 30])

    def test_a_party_without_a_purse(self):
        book = Book([(3, 30)])
        self.assertEqual(book.purse(9), 0)
        self.assertEqual(book.purse(30), 0)

    def test_asking_makes_no_purse(self):
        book = Book([(3, 30)])
        book.purse(9)
        self.assertEqual(list(book.purses.items()), [(3, 30)])


class GiveTest(unittest.TestCase):
    def test_a_party_with_a_purse_keeps_its_place(self):
        book = Book([(3, 30), (1, 10), (2, 20)])
        book.give(1, 5)
        self.assertEqual(list(book.purses.items()), [(3, 30), (1, 15), (2, 20)])

    def test_a_party_without_a_purse_gets_one_behind_the_others(self):
        book = Book([(3, 30), (1, 10)])
        book.give(2, 5)
        book.give(0, 6)
        book.give(2, 1)
        self.assertEqual(list(book.purses.items()), [(3, 30), (1, 10), (2, 6), (0, 6)])

    def test_a_party_that_is_given_nothing_has_a_purse(self):
        book = Book([(3, 30)])
        book.give(9, 0)
        self.assertEqual(list(book.purses.items()), [(3, 30), (9, 0)])

    def test_nothing_for_a_party_with_a_purse(self):
        book = Book([(3, 30), (1, 0)])
        book.give(3, 0)
        book.give(1, 0)
        self.assertEqual(list(book.purses.items()), [(3, 30), (1, 0)])

    def test_only_the_purse_changes(self):
        book = full_book()
        before = fields(book)
        book.give(1, 1)
        self.assertEqual(fields(book), ([(3, 30), (1, 11)],) + before[1:])


class SumOfMoneyTest(unittest.TestCase):
    def test_purses_alone(self):
        self.assertEqual(Book([]).sum_of_money(), 0)
        self.assertEqual(Book([(3, 30), (1, 10), (2, 0)]).sum_of_money(), 40)

    def test_purses_and_channels(self):
        book = full_book()
        self.assertEqual(book.sum_of_money(), 40 + 104 + 3)

    def test_channels_alone(self):
        book = Book([])
        book.vaults[7] = Vault(OPENING)
        self.assertEqual(book.sum_of_money(), 100)

    def test_what_was_burnt_is_gone(self):
        book = Book([(3, 30)])
        book.burnt = 12
        self.assertEqual(book.sum_of_money(), 30)

    def test_the_money_that_is_in_a_channel_now(self):
        book = Book([(3, 30)])
        book.vaults[7] = Vault(OPENING)
        book.vaults[7].money = 1
        self.assertEqual(book.sum_of_money(), 31)

    def test_great_amounts(self):
        book = Book([(1, MUCH), (2, MUCH)])
        self.assertEqual(book.sum_of_money(), 2 * MUCH)


class CopyBookTest(unittest.TestCase):
    def test_a_copy_is_equal(self):
        book = full_book()
        copied = copy_book(book)
        self.assertIsInstance(copied, Book)
        self.assertIsNot(copied, book)
        self.assertEqual(fields(copied), fields(full_book()))
        self.assertEqual(fields(book), fields(full_book()))

    def test_a_copy_of_an_empty_book(self):
        self.assertEqual(fields(copy_book(Book([]))), fields(Book([])))

    def change(self, book):
        book.give(3, 1)
        book.give(9, 1)
        book.vaults[7].money = 1
        book.vaults[7].least = 99
        book.vaults[4].published = None
        book.vaults[8] = Vault((8, 1, 2, 3, 4, 5, 6))
        book.receipts[99] = 0
        book.receipts[5] = 5
        book.ended.append(8)
        book.done.append((3, 1))
        book.height += 1
        book.burnt += 1

    def test_a_change_of_the_copy(self):
        book = full_book()
        self.change(copy_book(book))
        self.assertEqual(fields(book), fields(full_book()))

    def test_a_change_of_the_book(self):
        book = full_book()
        copied = copy_book(book)
        self.change(book)
        self.assertEqual(fields(copied), fields(full_book()))

    def test_a_channel_that_is_removed(self):
        book = full_book()
        copied = copy_book(book)
        del copied.vaults[7]
        self.assertEqual(list(book.vaults), [7, 4])

    def test_the_channels_are_apart(self):
        book = full_book()
        copied = copy_book(book)
        for number in (7, 4):
            self.assertIsNot(copied.vaults[number], book.vaults[number])


if __name__ == "__main__":
    unittest.main()
