"""The book: the orders that rest in it, the first first, and what was traded in it."""

from fairbook.errors import NotThere
from fairbook.orders import Numbering


# An order together with what trading makes of it.
class Entry:
    def __init__(self, order):
        self.order = order
        self.remaining = order.many
        # What does not rest shows nothing and stands nowhere.
        self.showing = 0
        self.rank = None

    def show_again(self):
        if self.order.shows is None:
            self.showing = self.remaining
        else:
            self.showing = min(self.order.shows, self.remaining)

    # Prices of buy are turned round, so that on both sides the least rank comes first.
    def stand_at(self, place):
        if self.order.side == "buy":
            self.rank = (-self.order.price, place)
        else:
            self.rank = (self.order.price, place)


# By halves, since a side may be long and each order that is put in or taken out is looked for.
def find_rank(entries, rank):
    low = 0
    high = len(entries)
    while low < high:
        middle = (low + high) // 2
        if entries[middle].rank < rank:
            low = middle + 1
        else:
            high = middle
    return low


# The prices keep the order in which they came.
def sum_by_price(pairs):
    totals = {}
    for price, many in pairs:
        totals[price] = totals.get(price, 0) + many
    return totals


class Book:
    def __init__(self):
        self.numbering = Numbering()
        self.sides = {"buy": [], "sell": []}
        self.entries = {}
        self.places = 0
        self.calling = False
        self.last_price = None
        self.traded = 0

    def resting(self, side):
        return [entry.order.number for entry in self.entries_of(side)]

    def depth(self, side):
        pairs = [(entry.order.price, entry.showing) for entry in self.entries_of(side)]
        return list(sum_by_price(pairs).items())

    def left(self, number):
        return self.entry_of(number).remaining

    def shown(self, number):
        return self.entry_of(number).showing

    def last(self):
        return self.last_price

    def volume(self):
        return self.traded

    def is_calling(self):
        return self.calling

    def is_crossed(self):
        buyer = self.first("buy")
        seller = self.first("sell")
        if buyer is None or seller is None:
            return False
        return buyer.order.price >= seller.order.price

    # No refusal is named for a text that is no side: nothing rests there.
    def entries_of(self, side):
        return list(self.sides.get(side, []))

    def entry_of(self, number):
        if number not in self.entries:
            raise NotThere(f"no order {number} rests in the book")
        return self.entries[number]

    def first(self, side):
        entries = self.sides[side]
        if len(entries) == 0:
            return None
        return entries[0]

    def put(self, entry):
        entry.stand_at(self.places)
        entry.show_again()
        self.places += 1
        entries = self.sides[entry.order.side]
        entries.insert(find_rank(entries, entry.rank), entry)
        self.entries[entry.order.number] = entry

    def take_out(self, entry):
        entries = self.sides[entry.order.side]
        entries.pop(find_rank(entries, entry.rank))
        self.entries.pop(entry.order.number)

    def put_anew(self, entry):
        self.take_out(entry)
        self.put(entry)

    def record_trade(self, price, many):
        self.last_price = price
        self.traded += many
