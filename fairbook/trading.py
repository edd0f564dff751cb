"""Trading: orders that come, are taken back and are changed."""

from fairbook.books import Entry
from fairbook.errors import NotNow
from fairbook.orders import Order, check_many, suits

OTHER_SIDE = {"buy": "sell", "sell": "buy"}


def place(book, owner, side, price, many, shows, way):
    order = Order(owner, side, price, many, shows, way)
    if book.is_calling() and way != "rest":
        raise NotNow(f"no order of way {way} may come while a call goes on")
    number = book.numbering.admit(order)
    coming = Entry(order)
    happened = []
    if not book.is_calling() and may_meet(book, order):
        happened = meet_all(book, coming)
    if way == "rest" and coming.remaining > 0:
        book.put(coming)
    return (number, happened)


def cancel(book, number):
    entry = book.entry_of(number)
    book.take_out(entry)
    return entry.remaining


def change(book, number, many):
    entry = book.entry_of(number)
    check_many(many)
    more = many > entry.remaining
    entry.remaining = many
    if more:
        book.put_anew(entry)
    else:
        entry.showing = min(entry.showing, many)


def may_meet(book, order):
    return order.way != "whole" or count_suiting(book, order) >= order.many


# Own orders are not counted, since they would be taken out and not traded with.
def count_suiting(book, order):
    found = 0
    for entry in book.entries_of(OTHER_SIDE[order.side]):
        if suits(entry.order.price, order) and entry.order.owner != order.owner:
            found += entry.remaining
    return found


def meet_all(book, coming):
    happened = []
    other = next_to_meet(book, coming)
    while other is not None:
        happened.append(meet(book, coming, other))
        other = next_to_meet(book, coming)
    return happened


def next_to_meet(book, coming):
    other = book.first(OTHER_SIDE[coming.order.side])
    if coming.remaining == 0 or other is None:
        return None
    if not suits(other.order.price, coming.order):
        return None
    return other


def meet(book, coming, other):
    if other.order.owner == coming.order.owner:
        book.take_out(other)
        return ("out", other.order.number)
    many = min(coming.remaining, other.showing)
    coming.remaining -= many
    lessen(book, other, many)
    book.record_trade(other.order.price, many)
    return ("trade", other.order.number, other.order.price, many)


def lessen(book, other, many):
    other.remaining -= many
    other.showing -= many
    if other.remaining == 0:
        book.take_out(other)
    elif other.showing == 0:
        book.put_anew(other)
