import unittest

from fairbook.books import Book
from fairbook.calls import call, uncross
from fairbook.errors import NotThere
from fairbook.trading import cancel, change
from helper import GREATEST, SIDES, BookCase, book_of, order, other_side


class EmptyBookTest(BookCase):
    def test_a_new_book_is_empty(self):
        book = Book()
        for side in SIDES:
            self.assertEqual(book.resting(side), [])
            self.assertEqual(book.depth(side), [])
        self.assertIsNone(book.last())
        self.assertEqual(book.volume(), 0)
        self.assertIs(book.is_calling(), False)
        self.assertIs(book.is_crossed(), False)

    def test_nothing_rests_on_what_is_no_side(self):
        book = book_of((1, "buy", 100, 10, None), (2, "sell", 110, 10, None))
        for side in ("", "Buy", "both"):
            self.assertEqual((book.resting(side), book.depth(side)), ([], []))

    def test_each_book_is_its_own(self):
        first = book_of((1, "buy", 100, 10, None))
        second = Book()
        self.assertEqual(second.resting("buy"), [])
        self.assertEqual(order(second, "buy", 100), (0, []))
        self.assertEqual(first.resting("buy"), [0])


# [2.1]
class RestingTest(BookCase):
    def test_the_greatest_price_of_buy_comes_first(self):
        book = book_of(*[(1, "buy", price, 10, None) for price in (100, 300, 200, 1, 1000000000)])
        self.assertEqual(book.resting("buy"), [4, 1, 2, 0, 3])
        self.assertEqual(book.resting("sell"), [])

    def test_the_least_price_of_sell_comes_first(self):
        book = book_of(*[(1, "sell", price, 10, None) for price in (100, 300, 200, 1, 1000000000)])
        self.assertEqual(book.resting("sell"), [3, 0, 2, 1, 4])
        self.assertEqual(book.resting("buy"), [])

    def test_of_like_prices_the_earliest_comes_first(self):
        for side in SIDES:
            with self.subTest(side=side):
                prices = (100, 101, 100, 101, 100)
                book = book_of(*[(owner, side, price, 10, None) for owner, price in enumerate(prices)])
                at_100, at_101 = [0, 2, 4], [1, 3]
                self.assertEqual(book.resting(side), at_101 + at_100 if side == "buy" else at_100 + at_101)

    def test_size_and_shown_part_give_no_better_place(self):
        for side in SIDES:
            book = book_of((1, side, 100, 10, 1), (2, side, 100, 10000, None), (3, side, 100, 1, None))
            self.assertEqual(book.resting(side), [0, 1, 2])

    def test_both_sides_at_once(self):
        book = book_of((1, "buy", 99, 1, None), (1, "sell", 101, 1, None), (1, "buy", 100, 1, None))
        self.assertEqual(book.resting("buy"), [2, 0])
        self.assertEqual(book.resting("sell"), [1])

    def test_many_prices_that_come_in_a_mixed_order(self):
        prices = [37 * step % 101 + 1 for step in range(101)] * 2
        for side in SIDES:
            book = book_of(*[(1, side, price, 1, None) for price in prices])
            ranked = sorted(range(202), key=lambda k: (prices[k] if side == "sell" else -prices[k], k))
            self.assertEqual(book.resting(side), ranked)
            for number in ranked[::3]:
                cancel(book, number)
            self.assertEqual(book.resting(side), [number for k, number in enumerate(ranked) if k % 3])


# [2.1]
class DepthTest(BookCase):
    def test_the_best_price_comes_first(self):
        book = book_of(*[(1, "buy", price, 10, None) for price in (100, 300, 200)])
        self.assertEqual(book.depth("buy"), [(300, 10), (200, 10), (100, 10)])
        self.assertEqual(book.depth("sell"), [])
        book = book_of(*[(1, "sell", price, 10, None) for price in (200, 300, 100)])
        self.assertEqual(book.depth("sell"), [(100, 10), (200, 10), (300, 10)])

    def test_like_prices_are_one_row(self):
        for side in SIDES:
            book = book_of((1, side, 100, 10, None), (2, side, 200, 5, None), (3, side, 100, 7, None))
            rows = [(100, 17), (200, 5)]
            self.assertEqual(book.depth(side), rows if side == "sell" else rows[::-1])

    def test_only_what_is_shown_counts(self):
        for side in SIDES:
            book = book_of((1, side, 100, 10, 3), (2, side, 100, 10000, 1), (3, side, 100, 7, 7))
            self.assertEqual(book.depth(side), [(100, 11)])

    def test_a_shown_part_that_is_partly_used(self):
        book = book_of((1, "sell", 100, 10, 4), (2, "sell", 100, 5, None))
        order(book, "buy", 100, 3, owner=3)
        self.assertEqual(book.depth("sell"), [(100, 6)])

    def test_the_rows_are_tuples_in_a_list(self):
        answer = book_of((1, "buy", 100, 10, 3)).depth("buy")
        self.assertIs(type(answer), list)
        self.assertIs(type(answer[0]), tuple)


# [2.1]
class LeftAndShownTest(BookCase):
    def test_shows_as_many_as_it_may(self):
        for side in SIDES:
            book = book_of((1, side, 100, 10, None), (1, side, 100, 10, 4), (1, side, 100, 10, 10), (1, side, 9, 1, 1))
            for number, shown in ((0, 10), (1, 4), (2, 10)):
                self.assert_rests(book, number, 10, shown)
            self.assert_rests(book, 3, 1, 1)

    def test_shows_at_most_what_is_left_as_it_is_put_in(self):
        for side in SIDES:
            book = book_of((1, other_side(side), 100, 8, None))
            order(book, side, 100, 10, owner=2, shows=5)
            self.assert_rests(book, 1, 2, 2)
            book = book_of((1, other_side(side), 100, 3, None))
            order(book, side, 100, 10, owner=2, shows=5)
            self.assert_rests(book, 1, 7, 5)

    def test_not_there_of_what_does_not_rest(self):
        book = book_of((1, "buy", 100, 10, None), (2, "sell", 100, 10, None), (3, "buy", 50, 10, None))
        order(book, "buy", 40, owner=4, way="now")
        cancel(book, 2)
        for number in (0, 1, 2, 3, 4, 99, -1, -2, GREATEST, -GREATEST):
            with self.subTest(number=number):
                self.assert_refused(book, NotThere, Book.left, number)
                self.assert_refused(book, NotThere, Book.shown, number)


class LastAndVolumeTest(BookCase):
    def test_the_last_price_and_the_sum_of_the_trades(self):
        book = book_of((1, "sell", 100, 10, None), (1, "sell", 101, 10, None))
        self.assertEqual((book.last(), book.volume()), (None, 0))
        order(book, "buy", 101, 4, owner=2)
        self.assertEqual((book.last(), book.volume()), (100, 4))
        order(book, "buy", 105, 10, owner=2)
        self.assertEqual((book.last(), book.volume()), (101, 14))

    def test_only_trades_count(self):
        book = book_of((1, "sell", 100, 10, None), (2, "sell", 102, 10, None), (3, "sell", 103, 10, None))
        order(book, "buy", 102, 5, owner=2)
        self.assertEqual((book.last(), book.volume()), (100, 5))
        order(book, "buy", 103, 20, owner=3)
        self.assertEqual((book.last(), book.volume()), (102, 20))
        cancel(book, 4)
        self.assertEqual((book.last(), book.volume()), (102, 20))

    def test_trades_of_a_call_count_too(self):
        book = Book()
        call(book)
        order(book, "buy", 100, 7, owner=1)
        order(book, "sell", 90, 5, owner=2)
        self.assertEqual((book.last(), book.volume()), (None, 0))
        uncross(book)
        self.assertEqual((book.last(), book.volume()), (90, 5))


class CallingAndCrossedTest(BookCase):
    def test_whether_a_call_goes_on(self):
        book = Book()
        call(book)
        self.assertIs(book.is_calling(), True)
        uncross(book)
        self.assertIs(book.is_calling(), False)

    def test_crossed_where_the_first_buy_price_is_not_below_the_first_sell_price(self):
        for buy, sell, crossed in ((99, 100, False), (100, 100, True), (101, 100, True)):
            book = Book()
            call(book)
            order(book, "buy", buy, owner=1)
            self.assertIs(book.is_crossed(), False)
            order(book, "sell", sell, owner=2)
            self.assertIs(book.is_crossed(), crossed)
            order(book, "buy", 1, owner=1)
            order(book, "sell", 1000, owner=2)
            self.assertIs(book.is_crossed(), crossed)

    def test_one_side_alone_is_not_crossed(self):
        for side in SIDES:
            self.assertIs(book_of((1, side, 100, 10, None)).is_crossed(), False)


# [0.1]
class NewListsTest(BookCase):
    def test_a_list_that_was_told_does_not_bind_the_book(self):
        book = book_of((1, "buy", 100, 10, 3), (2, "buy", 90, 10, None), (3, "sell", 110, 5, None))
        for deed in (Book.resting, Book.depth):
            for side in SIDES:
                with self.subTest(deed=deed.__name__, side=side):
                    first = deed(book, side)
                    kept = list(first)
                    first.append(first[0])
                    first.reverse()
                    first.clear()
                    self.assertEqual(deed(book, side), kept)
                    self.assertIsNot(deed(book, side), deed(book, side))

    def test_the_book_does_not_change_a_list_that_was_told(self):
        book = book_of((1, "buy", 100, 10, 3), (2, "buy", 90, 10, None))
        resting, depth = book.resting("buy"), book.depth("buy")
        change(book, 0, 11)
        order(book, "buy", 95)
        cancel(book, 1)
        self.assertEqual((resting, depth), ([0, 1], [(100, 3), (90, 10)]))

    def test_lists_of_an_empty_side_are_new_too(self):
        book = Book()
        for side in SIDES:
            book.resting(side).append(5)
            book.depth(side).append((1, 1))
            self.assertEqual((book.resting(side), book.depth(side)), ([], []))


if __name__ == "__main__":
    unittest.main()
