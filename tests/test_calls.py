import unittest

from fairbook.books import Book
from fairbook.calls import call, call_price, uncross
from fairbook.errors import NotNow
from fairbook.trading import cancel, place
from helper import BookCase, book_of, order, told


# Each row: side, price, how many; each order has an owner of its own.
def gathered(*rows, last=None):
    book = Book()
    if last is not None:
        place(book, -1, "sell", last, 1, None, "rest")
        place(book, -2, "buy", last, 1, None, "rest")
    call(book)
    for owner, (side, price, many) in enumerate(rows):
        place(book, owner, side, price, many, None, "rest")
    return book


# [3.1]
class BeginAndEndTest(BookCase):
    def test_a_call_begins_where_none_goes_on(self):
        book = Book()
        self.assertIsNone(call(book))
        self.assert_refused(book, NotNow, call)
        self.assertIs(book.is_calling(), True)

    def test_a_call_ends_where_one_goes_on(self):
        book = book_of((1, "buy", 100, 10, None))
        self.assert_refused(book, NotNow, uncross)
        call(book)
        self.assertEqual(uncross(book), [])
        self.assert_refused(book, NotNow, uncross)

    def test_one_call_behind_another(self):
        book = Book()
        for _ in range(3):
            call(book)
            self.assertEqual(uncross(book), [])
        self.assertIs(book.is_calling(), False)

    def test_a_call_trades_nothing_as_it_begins(self):
        book = book_of((1, "buy", 99, 10, 3), (2, "sell", 100, 10, 3))
        before = told(book)
        call(book)
        self.assertEqual(told(book), dict(before, calling=True))

    def test_a_call_that_is_refused_does_not_end_the_one_that_goes_on(self):
        book = gathered(("buy", 100, 5), ("sell", 100, 5))
        self.assert_refused(book, NotNow, call)
        self.assertEqual(uncross(book), [("trade", 0, 1, 100, 5)])

    def test_each_book_has_its_own_calls(self):
        first, second = Book(), Book()
        call(first)
        self.assert_refused(second, NotNow, uncross)
        self.assertIsNone(call(second))


# [3.2]
class CallPriceTest(BookCase):
    def assert_price(self, answer, *rows, last=None):
        for turned in (rows, rows[::-1]):
            with self.subTest(rows=turned, last=last):
                book = gathered(*turned, last=last)
                self.assertEqual(call_price(book), answer)
                trades = uncross(book)
                self.assertEqual({trade[3] for trade in trades}, {answer[0]})
                self.assertEqual(sum(trade[4] for trade in trades), answer[1])

    def test_most_can_be_traded(self):
        rows = (("buy", 105, 5), ("buy", 102, 5), ("buy", 101, 5), ("sell", 100, 4), ("sell", 102, 4), ("sell", 104, 4))
        self.assert_price((102, 8), *rows)

    def test_most_is_more_than_all_other_rules(self):
        # 6 at 10, where demand is 3 more; 7 at 20, where supply is 4 more.
        rows = (("sell", 10, 6), ("sell", 20, 5), ("buy", 20, 7), ("buy", 10, 2))
        for last in (None, 10):
            self.assert_price((20, 7), *rows, last=last)
        # 7 at 10, where demand is 4 more; 6 at 20, where supply is 3 more.
        rows = (("buy", 20, 6), ("buy", 10, 5), ("sell", 10, 7), ("sell", 20, 2))
        self.assert_price((10, 7), *rows, last=20)

    def test_of_several_the_one_where_demand_and_supply_differ_least(self):
        # 5 at each; demand is 4 more at 10 and 1 more at 20, supply is 4 more at 30.
        rows = (("sell", 10, 5), ("buy", 30, 5), ("buy", 10, 3), ("buy", 20, 1), ("sell", 30, 4))
        for last in (None, 1, 10, 30, 1000):
            self.assert_price((20, 5), *rows, last=last)

    def test_least_difference_is_more_than_the_last_price_and_the_least_price(self):
        rows = (("sell", 10, 5), ("buy", 20, 5), ("buy", 10, 1))
        for last in (None, 1, 10, 20, 1000):
            self.assert_price((20, 5), *rows, last=last)
        rows = (("sell", 10, 5), ("buy", 20, 5), ("sell", 20, 1))
        for last in (None, 1, 10, 20, 1000):
            self.assert_price((10, 5), *rows, last=last)

    def test_more_of_demand_weighs_like_more_of_supply(self):
        # 5 at each; demand is 2 more at 10, supply is 2 more at 20.
        rows = (("sell", 10, 5), ("buy", 20, 5), ("buy", 10, 2), ("sell", 20, 2))
        self.assert_price((10, 5), *rows)
        self.assert_price((20, 5), *rows, last=16)
        # Supply is only 1 more at 20.
        rows = (("sell", 10, 5), ("buy", 20, 5), ("buy", 10, 2), ("sell", 20, 1))
        self.assert_price((20, 5), *rows, last=1)

    def test_then_the_one_nearest_to_the_last_trade(self):
        rows = (("sell", 10, 5), ("buy", 20, 5))
        for last, price in ((1, 10), (10, 10), (14, 10), (16, 20), (20, 20), (1000, 20)):
            self.assert_price((price, 5), *rows, last=last)

    def test_then_the_least(self):
        rows = (("sell", 10, 5), ("buy", 20, 5))
        self.assert_price((10, 5), *rows, last=15)
        self.assert_price((10, 5), *rows)
        self.assert_price((11, 10), ("sell", 10, 5), ("buy", 12, 5), ("buy", 20, 5), ("sell", 11, 5))

    def test_only_prices_of_orders_that_rest_are_chosen(self):
        self.assert_price((10, 5), ("sell", 10, 5), ("buy", 20, 5), last=12)
        book = gathered(("sell", 10, 5), ("buy", 20, 5), ("buy", 15, 1), last=15)
        cancel(book, 4)
        self.assertEqual(call_price(book), (10, 5))

    def test_prices_of_both_sides_are_chosen(self):
        self.assert_price((10, 5), ("sell", 10, 5), ("buy", 20, 9))
        self.assert_price((20, 9), ("sell", 10, 9), ("buy", 20, 9), last=20)

    def test_a_price_of_orders_that_do_not_trade_may_be_chosen(self):
        # 5 at each, and a difference of 1; only the orders at 10 and 20 trade.
        rows = (("sell", 10, 5), ("buy", 20, 5), ("buy", 10, 1), ("sell", 15, 1))
        for last in (13, 15, 17):
            self.assert_price((15, 5), *rows, last=last)

    def test_unshown_parts_count(self):
        book = Book()
        call(book)
        order(book, "buy", 100, 10, owner=1, shows=1)
        order(book, "sell", 90, 8, owner=2, shows=2)
        self.assertEqual(call_price(book), (90, 8))

    def test_only_what_is_left_counts(self):
        book = book_of((1, "buy", 100, 10, None))
        order(book, "sell", 100, 4, owner=2)
        call(book)
        order(book, "sell", 100, 9, owner=3)
        self.assertEqual(call_price(book), (100, 6))

    def test_the_bounds_of_prices(self):
        self.assert_price((1, 10000), ("sell", 1, 10000), ("buy", 1000000000, 10000))
        self.assert_price((1000000000, 1), ("sell", 1, 1), ("buy", 1000000000, 1), last=1000000000)

    def test_the_last_trade_of_an_earlier_call_counts(self):
        book = gathered(("buy", 18, 5), ("sell", 18, 5))
        uncross(book)
        call(book)
        order(book, "sell", 10, 5, owner=1)
        order(book, "buy", 20, 5, owner=2)
        self.assertEqual(call_price(book), (20, 5))

    def test_none_where_nothing_can_be_traded(self):
        self.assertIsNone(call_price(Book()))
        for rows in ((), (("buy", 100, 5),), (("sell", 100, 5),), (("buy", 99, 5), ("sell", 100, 5))):
            for last in (None, 99):
                self.assertIsNone(call_price(gathered(*rows, last=last)))

    def test_outside_of_a_call_too(self):
        book = Book()
        self.assertIsNone(call_price(book))
        order(book, "buy", 99, owner=1)
        order(book, "sell", 100, owner=2)
        self.assertIsNone(call_price(book))
        order(book, "buy", 100, 5, owner=3)
        self.assertIsNone(call_price(book))

    def test_asking_changes_nothing(self):
        book = gathered(("buy", 105, 5), ("buy", 103, 5), ("sell", 100, 4), ("sell", 104, 4), last=99)
        before = told(book)
        answer = call_price(book)
        self.assertIs(type(answer), tuple)
        self.assertEqual(call_price(book), answer)
        self.assertEqual(told(book), before)


# [3.3]
class UncrossTest(BookCase):
    def test_the_first_with_the_first_again_and_again(self):
        book = gathered(
            ("buy", 101, 4), ("buy", 103, 6), ("buy", 103, 2), ("sell", 99, 5), ("sell", 98, 5), ("sell", 99, 9),
        )
        # Demand is 12 and supply 19 at 99 and at 101.
        self.assertEqual(call_price(book), (99, 12))
        self.assertEqual(uncross(book), [
            ("trade", 1, 4, 99, 5), ("trade", 1, 3, 99, 1), ("trade", 2, 3, 99, 2), ("trade", 0, 3, 99, 2),
            ("trade", 0, 5, 99, 2),
        ])
        self.assertEqual((book.resting("buy"), book.resting("sell")), ([], [5]))
        self.assert_rests(book, 5, 7, 7)
        self.assertEqual((book.last(), book.volume()), (99, 12))

    def test_no_more_than_can_be_traded_at_the_price(self):
        # The price does not suit the buy order at 80, though some of the sell order at 100 is left.
        book = gathered(("buy", 110, 5), ("sell", 100, 7), ("sell", 120, 5), ("buy", 80, 5))
        self.assertEqual(uncross(book), [("trade", 0, 1, 100, 5)])
        self.assertEqual((book.resting("buy"), book.resting("sell")), ([3], [1, 2]))
        self.assert_rests(book, 1, 2, 2)

    def test_owners_trade_with_themselves(self):
        book = Book()
        call(book)
        order(book, "buy", 100, 5, owner=1)
        order(book, "sell", 100, 3, owner=1)
        order(book, "sell", 100, 3, owner=2)
        self.assertEqual(call_price(book), (100, 5))
        self.assertEqual(uncross(book), [("trade", 0, 1, 100, 3), ("trade", 0, 2, 100, 2)])
        self.assertEqual(book.volume(), 5)

    def test_more_than_is_shown_trades_at_once(self):
        book = Book()
        call(book)
        order(book, "buy", 100, 10, owner=1, shows=1)
        order(book, "sell", 100, 8, owner=2, shows=3)
        self.assertEqual(uncross(book), [("trade", 0, 1, 100, 8)])
        self.assert_rests(book, 0, 2, 1)
        self.assert_gone(book, 1)

    def test_shown_parts_give_no_way_to_others(self):
        book = book_of((1, "sell", 100, 10, 2), (2, "sell", 100, 10, None))
        call(book)
        order(book, "buy", 100, 7, owner=3)
        self.assertEqual(uncross(book), [("trade", 2, 0, 100, 7)])
        self.assertEqual(book.resting("sell"), [0, 1])
        self.assert_rests(book, 0, 3, 2)

    def test_those_that_trade_show_as_many_as_they_may_behind_it(self):
        for many, left, shown in ((1, 7, 4), (4, 4, 4), (5, 3, 3), (7, 1, 1)):
            with self.subTest(many=many):
                book = book_of((1, "sell", 100, 10, 4), (2, "sell", 100, 10, 4))
                order(book, "buy", 100, 2, owner=3)
                self.assert_rests(book, 0, 8, 2)
                call(book)
                order(book, "buy", 100, many, owner=3)
                uncross(book)
                self.assertEqual(book.resting("sell"), [0, 1])
                self.assert_rests(book, 0, left, shown)
                self.assert_rests(book, 1, 10, 4)

    def test_those_that_do_not_trade_show_what_they_showed(self):
        book = book_of((1, "sell", 100, 10, 4), (2, "sell", 99, 2, None))
        order(book, "buy", 100, 5, owner=3)
        self.assert_rests(book, 0, 7, 1)
        call(book)
        order(book, "sell", 90, 5, owner=4)
        order(book, "buy", 90, 5, owner=5)
        uncross(book)
        self.assert_rests(book, 0, 7, 1)

    def test_those_left_over_keep_their_places(self):
        book = Book()
        call(book)
        for owner in range(3):
            order(book, "buy", 100, 5, owner=owner, shows=2)
        order(book, "sell", 100, 7, owner=9)
        self.assertEqual(uncross(book), [("trade", 0, 3, 100, 5), ("trade", 1, 3, 100, 2)])
        self.assertEqual(book.resting("buy"), [1, 2])
        self.assert_rests(book, 1, 3, 2)
        order(book, "buy", 100, 5, owner=4)
        self.assertEqual(book.resting("buy"), [1, 2, 4])
        self.assertEqual(order(book, "sell", 100, 2, owner=9)[1], [("trade", 1, 100, 2)])
        self.assertEqual(book.resting("buy"), [2, 4, 1])

    def test_a_call_at_which_nothing_can_be_traded(self):
        for rows in ((), (("buy", 99, 5),), (("sell", 99, 5),), (("buy", 99, 5), ("sell", 100, 5))):
            book = gathered(*rows, last=50)
            before = told(book)
            self.assertEqual(uncross(book), [])
            self.assertEqual(told(book), dict(before, calling=False))

    def test_those_that_rested_before_trade_too(self):
        book = book_of((1, "buy", 95, 5, None), (2, "sell", 105, 5, None))
        call(book)
        order(book, "sell", 95, 3, owner=3)
        order(book, "buy", 105, 3, owner=4)
        self.assertEqual(uncross(book), [("trade", 3, 2, 95, 3)])
        self.assertEqual((book.resting("buy"), book.resting("sell")), ([0], [1]))

    def test_the_book_is_not_crossed_behind_it(self):
        book = gathered(("buy", 105, 5), ("buy", 103, 5), ("buy", 101, 5), ("sell", 100, 4), ("sell", 102, 9))
        self.assertIs(book.is_crossed(), True)
        uncross(book)
        self.assertIs(book.is_crossed(), False)

    def test_the_kinds_of_the_answer(self):
        trades = uncross(gathered(("buy", 100, 5), ("sell", 100, 5)))
        self.assertIs(type(trades), list)
        self.assertIs(type(trades[0]), tuple)


if __name__ == "__main__":
    unittest.main()
