"""Calls: orders are gathered, and traded at one price as the call ends."""

from fairbook.books import sum_by_price
from fairbook.errors import NotNow


def call(book):
    if book.is_calling():
        raise NotNow("a call goes on already")
    book.calling = True


def call_price(book):
    best = min(weigh_prices(book), default=None)
    if best is None or best[0] == 0:
        return None
    return (best[3], -best[0])


def uncross(book):
    if not book.is_calling():
        raise NotNow("no call goes on")
    agreed = call_price(book)
    book.calling = False
    if agreed is None:
        return []
    return trade_at(book, agreed[0], agreed[1])


# Prices are walked upwards, so that each changes demand and supply by its own orders alone.
def weigh_prices(book):
    bought = left_by_price(book, "buy")
    sold = left_by_price(book, "sell")
    demand = sum(bought.values())
    supply = 0
    weighed = []
    for price in sorted(set(bought) | set(sold)):
        supply += sold.get(price, 0)
        weighed.append(weigh(price, demand, supply, book.last()))
        demand -= bought.get(price, 0)
    return weighed


def left_by_price(book, side):
    return sum_by_price([(entry.order.price, entry.remaining) for entry in book.entries_of(side)])


# One rule of choice behind another: the least of these tuples is of the call's price.
def weigh(price, demand, supply, last_price):
    distance = 0
    if last_price is not None:
        distance = abs(price - last_price)
    return (-min(demand, supply), abs(demand - supply), distance, price)


def trade_at(book, price, many):
    trades = []
    still = many
    while still > 0:
        buyer = book.first("buy")
        seller = book.first("sell")
        traded = min(buyer.remaining, seller.remaining, still)
        lessen_in_place(book, buyer, traded)
        lessen_in_place(book, seller, traded)
        book.record_trade(price, traded)
        still -= traded
        trades.append(("trade", buyer.order.number, seller.order.number, price, traded))
    return trades


def lessen_in_place(book, entry, many):
    entry.remaining -= many
    if entry.remaining == 0:
        book.take_out(entry)
    else:
        entry.show_again()
