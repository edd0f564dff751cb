"""What several of the tests need: orders placed in few words, and all that a book tells at once."""

import unittest

from fairbook.books import Book
from fairbook.errors import NotThere
from fairbook.trading import place

SIDES = ("buy", "sell")
GREATEST = 999999999999999
# Arguments of which each one makes an order none, whatever the book.
WRONG = (
    {"side": "Buy"}, {"side": ""}, {"way": "later"}, {"way": ""}, {"price": 0}, {"price": -1},
    {"price": 1000000001}, {"price": None}, {"many": 0}, {"many": -1}, {"many": 10001}, {"shows": 0},
    {"shows": -1}, {"shows": 11}, {"way": "now", "shows": 5}, {"way": "whole", "shows": 5},
    {"way": "whole", "price": 0}, {"way": "now", "many": 10001}, {"way": "now", "side": "up"},
)


def other_side(side):
    return "sell" if side == "buy" else "buy"


def order(book, side, price, many=10, owner=1, shows=None, way="rest"):
    return place(book, owner, side, price, many, shows, way)


# Each row: owner, side, price, how many, how many it shows.
def book_of(*rows):
    book = Book()
    for owner, side, price, many, shows in rows:
        place(book, owner, side, price, many, shows, "rest")
    return book


def told(book):
    numbers = [number for side in SIDES for number in book.resting(side)]
    return {
        "resting": [book.resting(side) for side in SIDES],
        "depth": [book.depth(side) for side in SIDES],
        "left": [book.left(number) for number in numbers],
        "shown": [book.shown(number) for number in numbers],
        "last": book.last(),
        "volume": book.volume(),
        "calling": book.is_calling(),
        "crossed": book.is_crossed(),
    }


class BookCase(unittest.TestCase):
    def assert_refused(self, book, refusal, deed, *arguments):
        before = told(book)
        with self.assertRaises(refusal) as caught:
            deed(book, *arguments)
        self.assertIs(type(caught.exception), refusal)
        self.assertEqual(told(book), before)

    def assert_gone(self, book, number):
        for side in SIDES:
            self.assertNotIn(number, book.resting(side))
        self.assertRaises(NotThere, book.left, number)
        self.assertRaises(NotThere, book.shown, number)

    def assert_rests(self, book, number, left, shown):
        self.assertEqual((book.left(number), book.shown(number)), (left, shown))
