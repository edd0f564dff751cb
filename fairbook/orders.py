"""Orders: what one is, which prices suit it, and how those that come are numbered."""

from fairbook.errors import BadOrder

GREATEST_PRICE = 1000000000
MOST_WANTED = 10000
SIDES = ("buy", "sell")
WAYS = ("rest", "now", "whole")


def check_side(side):
    if side not in SIDES:
        raise BadOrder(f"a side is buy or sell, not {side!r}")


def check_way(way):
    if way not in WAYS:
        raise BadOrder(f"a way is rest, now or whole, not {way!r}")


def check_price(price, way):
    # What rests has its place in the book by its price, so it can't be without one.
    if price is None and way == "rest":
        raise BadOrder("an order of way rest has a price")
    if price is not None and (price < 1 or price > GREATEST_PRICE):
        raise BadOrder(f"a price is 1 to {GREATEST_PRICE}, not {price}")


# By itself, since an order that is changed is held to the same bounds.
def check_many(many):
    if many < 1 or many > MOST_WANTED:
        raise BadOrder(f"an order wants 1 to {MOST_WANTED}, not {many}")


def check_shows(shows, many, way):
    # What never rests is never seen, so it has no part to show.
    if shows is not None and way != "rest":
        raise BadOrder(f"an order of way {way} shows None, not {shows}")
    if shows is not None and (shows < 1 or shows > many):
        raise BadOrder(f"an order for {many} shows 1 to {many}, not {shows}")


class Order:
    # The checks come first: of what is refused there is no order. The owner is
    # not checked, since any whole number is one.
    def __init__(self, owner, side, price, many, shows, way):
        check_side(side)
        check_way(way)
        check_price(price, way)
        check_many(many)
        check_shows(shows, many, way)
        self.owner = owner
        self.side = side
        self.price = price
        self.many = many
        self.shows = shows
        self.way = way
        # An order may still be refused once it is made (while a call goes on),
        # so it has no number before it is admitted.
        self.number = None


def suits(price, order):
    if order.price is None:
        return True
    if order.side == "buy":
        return price <= order.price
    return price >= order.price


class Numbering:
    def __init__(self):
        self.came = 0

    # Apart from making the order, so that what is refused uses up no number.
    def admit(self, order):
        order.number = self.came
        self.came += 1
        return order.number
