import unittest

from fairbook.books import Book
from fairbook.calls import call, uncross
from fairbook.errors import BadOrder, NotNow, NotThere
from fairbook.trading import cancel, change, place
from helper import GREATEST, SIDES, WRONG, BookCase, book_of, order, other_side, told


def place_parts(book, parts):
    whole = {"owner": 7, "side": "buy", "price": 100, "many": 10, "shows": None, "way": "rest"}
    whole.update(parts)
    return place(book, **whole)


# [1.1] [1.2] as place keeps them
class NumbersTest(BookCase):
    def test_orders_are_numbered_from_0_on_whatever_becomes_of_them(self):
        book = Book()
        self.assertEqual(order(book, "buy", 100, owner=1)[0], 0)
        self.assertEqual(order(book, "sell", 100, owner=2)[0], 1)
        self.assertEqual(order(book, "sell", 100, owner=2, way="now")[0], 2)
        self.assertEqual(order(book, "sell", None, owner=2, way="whole")[0], 3)
        self.assertEqual(order(book, "sell", 100, owner=2)[0], 4)
        self.assertEqual(book.resting("sell"), [4])

    def test_what_is_no_order_has_no_number_and_changes_nothing(self):
        book = book_of((1, "sell", 100, 10, 3), (1, "buy", 90, 10, None))
        for parts in WRONG:
            with self.subTest(**parts):
                self.assert_refused(book, BadOrder, place_parts, parts)
        self.assertEqual(order(book, "buy", 80)[0], 2)

    def test_what_may_not_come_now_has_no_number_and_changes_nothing(self):
        book = book_of((1, "sell", 100, 10, 3))
        call(book)
        for way in ("now", "whole"):
            for price in (100, None):
                self.assert_refused(book, NotNow, place, 2, "buy", price, 5, None, way)
        self.assertEqual(order(book, "buy", 80)[0], 1)

    def test_any_whole_number_is_an_owner(self):
        book = Book()
        for number, owner in enumerate((0, -1, GREATEST, -GREATEST)):
            self.assertEqual(order(book, "sell", 100, owner=owner), (number, []))
        events = order(book, "buy", 100, 35, owner=-1)[1]
        self.assertEqual(events, [("trade", 0, 100, 10), ("out", 1), ("trade", 2, 100, 10), ("trade", 3, 100, 10)])

    def test_the_greatest_numbers(self):
        book = Book()
        order(book, "sell", 1000000000, 10000, owner=1, shows=10000)
        self.assertEqual(order(book, "buy", 1000000000, 10000, owner=2), (1, [("trade", 0, 1000000000, 10000)]))
        order(book, "buy", 1, 1, owner=1, shows=1)
        self.assertEqual(order(book, "sell", 1, 1, owner=2), (3, [("trade", 2, 1, 1)]))

    def test_the_kinds_of_the_answer(self):
        book = book_of((1, "sell", 100, 10, None), (2, "sell", 100, 10, None))
        answer = order(book, "buy", 100, 20, owner=2)
        self.assertIs(type(answer), tuple)
        self.assertIs(type(answer[1]), list)
        self.assertEqual([type(event) for event in answer[1]], [tuple, tuple])


# [2.2]
class MeetingTest(BookCase):
    def test_the_edge_of_what_suits(self):
        for side, worse, better in (("buy", 99, 101), ("sell", 101, 99)):
            for price, meets in ((worse, False), (100, True), (better, True)):
                with self.subTest(side=side, price=price):
                    book = book_of((1, other_side(side), 100, 10, None))
                    events = order(book, side, price, 10, owner=2)[1]
                    self.assertEqual(events, [("trade", 0, 100, 10)] if meets else [])
                    self.assertEqual(book.resting(side), [] if meets else [1])

    def test_the_best_price_first_at_the_price_of_the_one_that_rests(self):
        book = book_of((1, "sell", 102, 5, None), (2, "sell", 100, 5, None), (3, "sell", 101, 5, None))
        events = order(book, "buy", 101, 12, owner=4)[1]
        self.assertEqual(events, [("trade", 1, 100, 5), ("trade", 2, 101, 5)])
        self.assertEqual(book.resting("sell"), [0])
        self.assert_rests(book, 3, 2, 2)
        book = book_of((1, "buy", 98, 5, None), (2, "buy", 100, 5, None), (3, "buy", 99, 5, None))
        events = order(book, "sell", 99, 12, owner=4)[1]
        self.assertEqual(events, [("trade", 1, 100, 5), ("trade", 2, 99, 5)])
        self.assertEqual(book.resting("buy"), [0])
        self.assert_rests(book, 3, 2, 2)

    def test_of_like_prices_the_earliest_first(self):
        for side in SIDES:
            book = book_of(*[(1, other_side(side), 100, 5, None) for _ in range(3)])
            events = order(book, side, 100, 12, owner=2)[1]
            self.assertEqual(events, [("trade", 0, 100, 5), ("trade", 1, 100, 5), ("trade", 2, 100, 2)])
            self.assertEqual(book.resting(other_side(side)), [2])
            self.assert_rests(book, 2, 3, 3)
            self.assert_gone(book, 0)
            self.assert_gone(book, 3)

    def test_one_that_is_partly_traded_keeps_its_place(self):
        for shows in (None, 6):
            book = book_of((1, "sell", 100, 10, shows), (2, "sell", 100, 10, None))
            order(book, "buy", 100, 4, owner=3)
            self.assertEqual(book.resting("sell"), [0, 1])
            self.assert_rests(book, 0, 6, 6 if shows is None else 2)

    def test_what_is_left_rests_behind_those_of_like_price(self):
        book = book_of((1, "buy", 100, 10, None), (2, "sell", 101, 4, None))
        self.assertEqual(order(book, "buy", 101, 10, owner=3), (2, [("trade", 1, 101, 4)]))
        self.assertEqual(order(book, "buy", 100, 10, owner=3), (3, []))
        self.assertEqual(book.resting("buy"), [2, 0, 3])
        self.assert_rests(book, 2, 6, 6)
        self.assertEqual(book.depth("buy"), [(101, 6), (100, 20)])

    def test_meets_nobody_of_its_own_side(self):
        for side in SIDES:
            book = book_of((1, side, 100, 10, None))
            self.assertEqual(order(book, side, 100, 10, owner=2), (1, []))
            self.assertEqual(book.resting(side), [0, 1])


# [2.2]
class ShownPartTest(BookCase):
    def test_no_more_than_it_shows_is_traded_at_once(self):
        for side in SIDES:
            book = book_of((1, other_side(side), 100, 10, 4))
            events = order(book, side, 100, 7, owner=2)[1]
            self.assertEqual(events, [("trade", 0, 100, 4), ("trade", 0, 100, 3)])
            self.assert_rests(book, 0, 3, 1)

    def test_a_used_up_part_goes_behind_others_of_like_price(self):
        for side in SIDES:
            book = book_of((1, other_side(side), 100, 10, 4), (2, other_side(side), 100, 5, None))
            self.assertEqual(order(book, side, 100, 4, owner=3)[1], [("trade", 0, 100, 4)])
            self.assertEqual(book.resting(other_side(side)), [1, 0])
            self.assert_rests(book, 0, 6, 4)

    def test_again_and_again(self):
        book = book_of((1, "sell", 100, 7, 2), (2, "sell", 100, 5, 3), (3, "sell", 100, 1, None), (4, "sell", 101, 9, 1))
        events = order(book, "buy", 101, 15, owner=5)[1]
        pairs = [(0, 2), (1, 3), (2, 1), (0, 2), (1, 2), (0, 2), (0, 1)]
        expected = [("trade", number, 100, many) for number, many in pairs]
        self.assertEqual(events, expected + [("trade", 3, 101, 1)] * 2)
        self.assertEqual(book.resting("sell"), [3])
        self.assert_rests(book, 3, 7, 1)
        self.assertEqual((book.last(), book.volume()), (101, 15))

    def test_it_does_not_go_behind_a_worse_price(self):
        book = book_of((1, "buy", 100, 9, 2), (2, "buy", 99, 5, None))
        events = order(book, "sell", 99, 10, owner=3)[1]
        self.assertEqual(events, [("trade", 0, 100, 2)] * 4 + [("trade", 0, 100, 1), ("trade", 1, 99, 1)])

    def test_the_last_part_is_no_more_than_what_is_left(self):
        book = book_of((1, "sell", 100, 10, 6))
        order(book, "buy", 100, 6, owner=2)
        self.assert_rests(book, 0, 4, 4)
        self.assertEqual(book.depth("sell"), [(100, 4)])
        order(book, "buy", 100, 4, owner=2)
        self.assert_gone(book, 0)

    def test_behind_one_that_came_later_and_was_itself_put_anew(self):
        book = book_of((1, "sell", 100, 4, 1), (2, "sell", 100, 4, 1))
        for expected in ([1, 0], [0, 1], [1, 0]):
            order(book, "buy", 100, 1, owner=3)
            self.assertEqual(book.resting("sell"), expected)

    def test_a_long_one_that_shows_one(self):
        book = book_of((1, "sell", 100, 10000, 1), (2, "sell", 100, 3, 1))
        events = order(book, "buy", 100, 10000, owner=3)[1]
        self.assertEqual(len(events), 10000)
        self.assertEqual(events[:6], [("trade", 0, 100, 1), ("trade", 1, 100, 1)] * 3)
        self.assert_rests(book, 0, 3, 1)

    def test_the_shown_part_of_the_one_that_came_does_not_bind_it(self):
        book = book_of((1, "sell", 100, 10, None))
        self.assertEqual(order(book, "buy", 100, 8, owner=2, shows=3)[1], [("trade", 0, 100, 8)])


# [2.2]
class OwnOrdersTest(BookCase):
    def test_an_own_order_is_taken_out_and_not_traded_with(self):
        for side in SIDES:
            for way in ("rest", "now"):
                book = book_of((1, other_side(side), 100, 10, 4))
                self.assertEqual(order(book, side, 100, 5, owner=1, way=way), (1, [("out", 0)]))
                self.assert_gone(book, 0)
                self.assertEqual(book.resting(side), [1] if way == "rest" else [])
                self.assertEqual((book.last(), book.volume()), (None, 0))

    def test_between_others(self):
        book = book_of(*[(owner, "sell", 100, 5, None) for owner in (1, 2, 1, 3)])
        events = order(book, "buy", 100, 12, owner=1)[1]
        self.assertEqual(events, [("out", 0), ("trade", 1, 100, 5), ("out", 2), ("trade", 3, 100, 5)])
        self.assertEqual(book.resting("sell"), [])
        self.assert_rests(book, 4, 2, 2)

    def test_those_that_are_not_met_stay(self):
        book = book_of((2, "sell", 100, 5, None), (1, "sell", 100, 5, None), (1, "sell", 102, 5, None))
        self.assertEqual(order(book, "buy", 101, 5, owner=1)[1], [("trade", 0, 100, 5)])
        self.assertEqual(book.resting("sell"), [1, 2])
        self.assertEqual(order(book, "buy", 101, 5, owner=1)[1], [("out", 1)])
        self.assertEqual(book.resting("sell"), [2])

    def test_own_orders_of_the_same_side_stay(self):
        book = book_of((1, "buy", 100, 5, None), (1, "sell", 101, 5, None))
        order(book, "buy", 101, 5, owner=1)
        self.assertEqual(book.resting("buy"), [2, 0])


# [2.3]
class WholeTest(BookCase):
    def test_just_enough_and_one_too_few(self):
        for side in SIDES:
            for price in (100, None):
                for many, meets in ((10, True), (11, False)):
                    with self.subTest(side=side, price=price, many=many):
                        book = book_of((1, other_side(side), 100, 6, None), (2, other_side(side), 100, 4, None))
                        before = told(book)
                        answer = order(book, side, price, many, owner=3, way="whole")
                        trades = [("trade", 0, 100, 6), ("trade", 1, 100, 4)]
                        self.assertEqual(answer, (2, trades if meets else []))
                        self.assertEqual(book.resting(side), [])
                        if not meets:
                            self.assertEqual(told(book), before)

    def test_only_prices_that_suit_count(self):
        for side, near, far in (("buy", 100, 101), ("sell", 101, 100)):
            book = book_of((1, other_side(side), near, 5, None), (1, other_side(side), far, 5, None))
            self.assertEqual(order(book, side, near, 6, owner=2, way="whole")[1], [])
            trades = [("trade", 0, near, 5), ("trade", 1, far, 1)]
            self.assertEqual(order(book, side, far, 6, owner=2, way="whole")[1], trades)

    def test_unshown_parts_count(self):
        for many, meets in ((14, True), (15, False)):
            book = book_of((1, "sell", 100, 10, 3), (2, "sell", 100, 4, 1))
            before = told(book)
            number, events = order(book, "buy", 100, many, owner=3, way="whole")
            self.assertEqual(sum(event[3] for event in events), 14 if meets else 0)
            self.assertEqual(book.resting("sell"), [] if meets else [0, 1])
            if not meets:
                self.assertEqual(told(book), before)

    def test_own_orders_do_not_count_and_stay_if_too_few(self):
        book = book_of((1, "sell", 99, 10, None), (2, "sell", 100, 5, None))
        before = told(book)
        self.assertEqual(order(book, "buy", 100, 6, owner=1, way="whole"), (2, []))
        self.assertEqual(told(book), before)

    def test_own_orders_on_the_way_are_taken_out_if_there_are_enough(self):
        book = book_of((1, "sell", 99, 10, 2), (2, "sell", 100, 5, 3), (1, "sell", 100, 5, None))
        events = order(book, "buy", 100, 5, owner=1, way="whole")[1]
        self.assertEqual(events, [("out", 0), ("trade", 1, 100, 3), ("out", 2), ("trade", 1, 100, 2)])

    def test_an_empty_book(self):
        for side in SIDES:
            for price in (100, None):
                book = Book()
                self.assertEqual(order(book, side, price, 1, way="whole"), (0, []))
                self.assert_gone(book, 0)

    def test_what_is_too_few_has_a_number_all_the_same(self):
        book = Book()
        order(book, "buy", 100, 1, way="whole")
        self.assertEqual(order(book, "buy", 100, 1), (1, []))

    def test_only_what_is_left_of_them_counts(self):
        book = book_of((1, "sell", 100, 10, None))
        order(book, "buy", 100, 4, owner=2)
        self.assertEqual(order(book, "buy", 100, 7, owner=2, way="whole")[1], [])
        change(book, 0, 7)
        self.assertEqual(order(book, "buy", 100, 7, owner=2, way="whole")[1], [("trade", 0, 100, 7)])


# [2.3]
class NowTest(BookCase):
    def test_what_is_left_is_gone(self):
        for side in SIDES:
            for price in (100, None):
                book = book_of((1, other_side(side), 100, 5, 2))
                number, events = order(book, side, price, 8, owner=2, way="now")
                self.assertEqual(events, [("trade", 0, 100, 2), ("trade", 0, 100, 2), ("trade", 0, 100, 1)])
                self.assertEqual(book.resting(side), [])
                self.assert_gone(book, number)

    def test_one_that_meets_none_is_gone(self):
        for side, price in (("buy", 99), ("sell", 101)):
            book = book_of((1, other_side(side), 100, 5, None))
            self.assertEqual(order(book, side, price, 8, owner=2, way="now"), (1, []))
            self.assert_gone(book, 1)

    def test_it_trades_at_prices_that_suit_alone(self):
        book = book_of((1, "sell", 100, 5, None), (1, "sell", 102, 5, None))
        self.assertEqual(order(book, "buy", 101, 8, owner=2, way="now")[1], [("trade", 0, 100, 5)])
        self.assertEqual(book.resting("sell"), [1])

    def test_none_as_price_suits_any(self):
        book = book_of((1, "sell", 1, 5, None), (1, "sell", 1000000000, 5, None))
        trades = [("trade", 0, 1, 5), ("trade", 1, 1000000000, 3)]
        self.assertEqual(order(book, "buy", None, 8, owner=2, way="now")[1], trades)
        book = book_of((1, "buy", 1, 5, None), (1, "buy", 1000000000, 5, None))
        trades = [("trade", 1, 1000000000, 5), ("trade", 0, 1, 3)]
        self.assertEqual(order(book, "sell", None, 8, owner=2, way="now")[1], trades)


# [2.4]
class CancelTest(BookCase):
    def test_answers_how_many_were_left(self):
        for side in SIDES:
            book = book_of((1, side, 100, 10, 3), (1, side, 100, 5, None))
            order(book, other_side(side), 100, 2, owner=2)
            self.assertEqual(cancel(book, 0), 8)
            self.assert_gone(book, 0)
            self.assertEqual(book.resting(side), [1])
            self.assertEqual(cancel(book, 1), 5)
            self.assertEqual(book.resting(side), [])

    def test_in_a_call_too(self):
        book = book_of((1, "buy", 100, 10, 3))
        call(book)
        order(book, "sell", 90, 4, owner=2)
        self.assertEqual((cancel(book, 1), cancel(book, 0)), (4, 10))
        self.assertEqual(uncross(book), [])

    def test_what_was_taken_back_trades_no_more(self):
        book = book_of((1, "sell", 100, 10, None), (2, "sell", 101, 10, None))
        cancel(book, 0)
        self.assertEqual(order(book, "buy", 101, 5, owner=3)[1], [("trade", 1, 101, 5)])

    def test_not_there(self):
        book = book_of((1, "buy", 100, 10, None), (2, "sell", 100, 10, None), (3, "buy", 50, 10, None))
        order(book, "buy", 40, owner=4, way="now")
        order(book, "sell", 50, 1, owner=3)
        for number in (0, 1, 2, 3, 5, 99, -1, -4, GREATEST, -GREATEST):
            self.assert_refused(book, NotThere, cancel, number)
        self.assertEqual(cancel(book, 4), 1)
        self.assert_refused(book, NotThere, cancel, 4)
        call(book)
        self.assert_refused(book, NotThere, cancel, 4)


# [2.4]
class ChangeTest(BookCase):
    def three(self, shows):
        return book_of(*[(owner, "sell", 100, 10, shows) for owner in (1, 2, 3)])

    def test_more_is_put_into_the_book_anew(self):
        for shows, shown in ((None, 11), (4, 4), (10, 10)):
            book = self.three(shows)
            self.assertIsNone(change(book, 0, 11))
            self.assertEqual(book.resting("sell"), [1, 2, 0])
            self.assert_rests(book, 0, 11, shown)

    def test_as_many_or_fewer_keeps_its_place(self):
        for many in (10, 9, 1):
            for shows in (None, 4, 10):
                with self.subTest(many=many, shows=shows):
                    book = self.three(shows)
                    self.assertIsNone(change(book, 0, many))
                    self.assertEqual(book.resting("sell"), [0, 1, 2])
                    self.assert_rests(book, 0, many, min(many, 10 if shows is None else shows))

    def test_the_bound_is_what_was_left_and_not_what_was_wanted(self):
        book = self.three(None)
        order(book, "buy", 100, 4, owner=4)
        change(book, 0, 6)
        self.assertEqual(book.resting("sell"), [0, 1, 2])
        change(book, 0, 7)
        self.assertEqual(book.resting("sell"), [1, 2, 0])
        self.assert_rests(book, 0, 7, 7)

    def test_a_partly_used_shown_part(self):
        for many, place_kept, shown in ((9, False, 4), (8, True, 2), (5, True, 2), (2, True, 2), (1, True, 1)):
            with self.subTest(many=many):
                book = self.three(4)
                order(book, "buy", 100, 2, owner=4)
                self.assert_rests(book, 0, 8, 2)
                change(book, 0, many)
                self.assertEqual(book.resting("sell"), [0, 1, 2] if place_kept else [1, 2, 0])
                self.assert_rests(book, 0, many, shown)

    def test_fewer_and_then_more_shows_as_many_as_it_may_again(self):
        book = self.three(4)
        change(book, 0, 2)
        self.assert_rests(book, 0, 2, 2)
        change(book, 0, 3)
        self.assert_rests(book, 0, 3, 3)
        change(book, 0, 10000)
        self.assert_rests(book, 0, 10000, 4)
        self.assertEqual(book.depth("sell"), [(100, 12)])

    def test_its_price_and_owner_stay(self):
        book = book_of((1, "buy", 100, 10, None), (2, "buy", 99, 10, None))
        change(book, 0, 20)
        self.assertEqual(book.depth("buy"), [(100, 20), (99, 10)])
        self.assertEqual(order(book, "sell", 100, 5, owner=1)[1], [("out", 0)])

    def test_the_others_and_the_trades_stay(self):
        book = self.three(4)
        change(book, 1, 5)
        for number in (0, 2):
            self.assert_rests(book, number, 10, 4)
        self.assertEqual((book.last(), book.volume()), (None, 0))

    def test_in_a_call_too(self):
        book = self.three(4)
        call(book)
        change(book, 0, 11)
        change(book, 1, 2)
        self.assertEqual(book.resting("sell"), [1, 2, 0])
        self.assert_rests(book, 0, 11, 4)
        self.assert_rests(book, 1, 2, 2)
        order(book, "buy", 100, 12, owner=4)
        self.assertEqual(uncross(book), [("trade", 3, 1, 100, 2), ("trade", 3, 2, 100, 10)])

    def test_bad_order_beyond_the_bounds(self):
        book = self.three(4)
        for many in (0, -1, 10001, GREATEST, -GREATEST):
            self.assert_refused(book, BadOrder, change, 0, many)
        call(book)
        self.assert_refused(book, BadOrder, change, 0, 0)
        for many in (10000, 1):
            change(book, 0, many)
            self.assertEqual(book.left(0), many)

    def test_not_there_before_bad_order(self):
        book = book_of((1, "buy", 100, 10, None), (2, "sell", 100, 10, None), (3, "buy", 50, 10, None))
        order(book, "buy", 40, owner=4, way="whole")
        cancel(book, 2)
        for number in (0, 1, 2, 3, 4, -1, GREATEST, -GREATEST):
            for many in (5, 0, -1, 10001):
                self.assert_refused(book, NotThere, change, number, many)


# [3.1]
class PlacingInACallTest(BookCase):
    def test_they_rest_and_meet_none(self):
        book = book_of((1, "sell", 100, 10, 3))
        call(book)
        self.assertEqual(order(book, "buy", 110, 5, owner=2), (1, []))
        self.assertEqual(order(book, "buy", 120, 5, owner=1, shows=2), (2, []))
        self.assertEqual(book.resting("buy"), [2, 1])
        self.assertEqual(book.resting("sell"), [0])
        self.assertEqual(book.depth("buy"), [(120, 2), (110, 5)])
        self.assertEqual((book.last(), book.volume()), (None, 0))
        self.assertIs(book.is_crossed(), True)

    def test_bad_order_before_not_now(self):
        book = Book()
        call(book)
        for parts in WRONG:
            with self.subTest(**parts):
                self.assert_refused(book, BadOrder, place_parts, parts)
        for way in ("now", "whole"):
            self.assert_refused(book, NotNow, place_parts, {"way": way})
            for parts in ({"side": "up"}, {"price": 0}, {"many": 0}, {"shows": 5}):
                self.assert_refused(book, BadOrder, place_parts, dict(parts, way=way))

    def test_behind_the_call_every_way_may_come_again(self):
        book = book_of((1, "sell", 100, 10, None))
        call(book)
        uncross(book)
        self.assertEqual(order(book, "buy", None, 4, owner=2, way="now"), (1, [("trade", 0, 100, 4)]))
        self.assertEqual(order(book, "buy", 100, 6, owner=2, way="whole"), (2, [("trade", 0, 100, 6)]))


if __name__ == "__main__":
    unittest.main()
