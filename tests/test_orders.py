import unittest

from fairbook.errors import BadOrder
from fairbook.orders import Numbering, Order, check_many, suits

SIDES = ("buy", "sell")
WAYS = ("rest", "now", "whole")
NO_SIDES = ("", " ", "b", "buyer", "Buy", "BUY", "buy ", " sell", "Sell", "SELL", "bu", "rest", "None")
NO_WAYS = ("", " ", "r", "rests", "Rest", "REST", "rest ", " now", "Now", "NOW", "Whole", "WHOLE", "buy", "None")
GREATEST = 999999999999999


def make(owner=7, side="buy", price=100, many=10, shows=None, way="rest"):
    return Order(owner, side, price, many, shows, way)


class OrdersCase(unittest.TestCase):
    def assert_refused(self, **parts):
        with self.subTest(**parts):
            with self.assertRaises(BadOrder) as caught:
                make(**parts)
            self.assertIs(type(caught.exception), BadOrder)

    def assert_order(self, **parts):
        with self.subTest(**parts):
            order = make(**parts)
            for name, value in parts.items():
                self.assertEqual(getattr(order, name), value)


class SidesAndWaysTest(OrdersCase):
    def test_an_order_has_all_that_it_was_made_of(self):
        order = Order(3, "sell", 250, 40, 15, "rest")
        parts = (order.owner, order.side, order.price, order.many, order.shows, order.way)
        self.assertEqual(parts, (3, "sell", 250, 40, 15, "rest"))

    def test_each_side_with_each_way(self):
        for side in SIDES:
            for way in WAYS:
                self.assert_order(side=side, way=way)

    def test_other_texts_are_no_sides(self):
        for side in NO_SIDES:
            for way in WAYS:
                self.assert_refused(side=side, way=way)

    def test_other_texts_are_no_ways(self):
        for way in NO_WAYS:
            for side in SIDES:
                self.assert_refused(side=side, way=way)
                self.assert_refused(side=side, way=way, price=None)
                self.assert_refused(side=side, way=way, shows=5)


class OwnersTest(OrdersCase):
    def test_any_whole_number_is_an_owner(self):
        for owner in (0, 1, -1, 42, 10001, 1000000001, GREATEST, -GREATEST):
            for way in WAYS:
                self.assert_order(owner=owner, way=way)


class PricesTest(OrdersCase):
    def test_prices_within_the_bounds(self):
        for price in (1, 2, 999999999, 1000000000):
            for side in SIDES:
                for way in WAYS:
                    self.assert_order(price=price, side=side, way=way)

    def test_prices_beyond_the_bounds(self):
        for price in (-GREATEST, -1000000000, -1, 0, 1000000001, GREATEST):
            for side in SIDES:
                for way in WAYS:
                    self.assert_refused(price=price, side=side, way=way)

    def test_without_a_price_only_what_does_not_rest(self):
        for side in SIDES:
            self.assert_order(price=None, side=side, way="now")
            self.assert_order(price=None, side=side, way="whole")
            self.assert_refused(price=None, side=side, way="rest")
            self.assert_refused(price=None, side=side, way="rest", shows=5)


class HowManyTest(OrdersCase):
    def test_within_the_bounds(self):
        for many in (1, 2, 9999, 10000):
            for way in WAYS:
                self.assert_order(many=many, way=way)

    def test_beyond_the_bounds(self):
        for many in (-GREATEST, -10000, -1, 0, 10001, GREATEST):
            for way in WAYS:
                self.assert_refused(many=many, way=way)

    def test_a_shown_part_mends_no_bad_number(self):
        for many in (-1, 0, 10001):
            for shows in (-1, 0, 1, many):
                self.assert_refused(many=many, shows=shows)

    def test_the_check_alone_keeps_the_same_bounds(self):
        for many in (1, 10000):
            self.assertIsNone(check_many(many))
        for many in (-GREATEST, -1, 0, 10001, GREATEST):
            with self.subTest(many=many):
                self.assertRaises(BadOrder, check_many, many)


class ShownTest(OrdersCase):
    def test_shows_none_or_one_to_as_many_as_wanted(self):
        for many in (1, 2, 10, 10000):
            for shows in (None, 1, many):
                for side in SIDES:
                    self.assert_order(many=many, shows=shows, side=side)

    def test_shows_no_less_than_one_and_no_more_than_wanted(self):
        for many in (1, 2, 10, 10000):
            for shows in (-GREATEST, -1, 0, many + 1, GREATEST):
                for side in SIDES:
                    self.assert_refused(many=many, shows=shows, side=side)

    def test_what_does_not_rest_shows_none(self):
        for way in ("now", "whole"):
            self.assert_order(shows=None, way=way)
            for shows in (-1, 0, 1, 5, 10, 11):
                self.assert_refused(shows=shows, way=way)
                self.assert_refused(shows=shows, way=way, price=None)


class SuitsTest(unittest.TestCase):
    def assert_suits(self, order, answers):
        for price, answer in answers:
            with self.subTest(side=order.side, own=order.price, price=price):
                self.assertIs(suits(price, order), answer)

    def test_buy_is_suited_by_what_is_not_above(self):
        answers = ((1, True), (99, True), (100, True), (101, False), (1000000000, False))
        for way in WAYS:
            self.assert_suits(make(side="buy", price=100, way=way), answers)

    def test_sell_is_suited_by_what_is_not_below(self):
        answers = ((1, False), (99, False), (100, True), (101, True), (1000000000, True))
        for way in WAYS:
            self.assert_suits(make(side="sell", price=100, way=way), answers)

    def test_at_the_bounds_of_prices(self):
        self.assert_suits(make(side="buy", price=1), ((1, True), (2, False)))
        self.assert_suits(make(side="sell", price=1), ((1, True), (2, True)))
        self.assert_suits(make(side="buy", price=1000000000), ((999999999, True), (1000000000, True)))
        self.assert_suits(make(side="sell", price=1000000000), ((999999999, False), (1000000000, True)))

    def test_without_a_price_any_price_suits(self):
        answers = ((1, True), (100, True), (1000000000, True))
        for side in SIDES:
            for way in ("now", "whole"):
                self.assert_suits(make(side=side, price=None, way=way), answers)


class NumberingTest(unittest.TestCase):
    def test_numbers_from_0_on_as_they_come(self):
        numbering = Numbering()
        orders = [make(owner=5), make(side="sell"), make(way="now"), make(owner=5)]
        self.assertEqual([numbering.admit(order) for order in orders], [0, 1, 2, 3])
        self.assertEqual([order.number for order in orders], [0, 1, 2, 3])

    def test_what_is_refused_has_no_number_and_changes_nothing(self):
        numbering = Numbering()
        numbering.admit(make())
        wrong = ({"side": "Buy"}, {"price": 0}, {"many": 10001}, {"shows": 11}, {"way": ""})
        for parts in wrong:
            with self.subTest(**parts):
                before = numbering.came
                with self.assertRaises(BadOrder):
                    numbering.admit(make(**parts))
                self.assertEqual(numbering.came, before)
        self.assertEqual(numbering.admit(make()), 1)

    def test_an_order_that_is_not_admitted_has_no_number(self):
        numbering = Numbering()
        left_out = make(way="now")
        self.assertEqual(numbering.admit(make()), 0)
        self.assertIsNone(left_out.number)

    def test_each_numbering_begins_anew(self):
        first = Numbering()
        first.admit(make())
        self.assertEqual(Numbering().admit(make()), 0)


if __name__ == "__main__":
    unittest.main()
