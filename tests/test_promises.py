"""What is promised over the whole program, held over many mixed deeds.

A second, slow book, written row by row after the document, is asked the same as the first.
"""

import random
import unittest

from fairbook.books import Book
from fairbook.calls import call, call_price, uncross
from fairbook.errors import BadOrder, BookError, NotNow, NotThere
from fairbook.trading import cancel, change, place
from helper import SIDES, other_side, told


class SlowBook:
    def __init__(self):
        self.came = 0
        self.rows = []
        self.calling = False
        self.trades = []

    def side(self, side):
        sign = -1 if side == "buy" else 1
        rows = [row for row in self.rows if row["side"] == side]
        # A row that is put in stands behind all others, and sorting keeps that order.
        return sorted(rows, key=lambda row: sign * row["price"])

    def row(self, number):
        for row in self.rows:
            if row["number"] == number:
                return row
        raise NotThere

    def may_show(self, row):
        return min(row["left"], row["left"] if row["shows"] is None else row["shows"])

    def put(self, row):
        self.rows = [other for other in self.rows if other is not row] + [row]
        row["shown"] = self.may_show(row)

    def take(self, row):
        self.rows = [other for other in self.rows if other is not row]

    def suits(self, price, row):
        if row["price"] is None:
            return True
        return price <= row["price"] if row["side"] == "buy" else price >= row["price"]

    def told(self):
        sides = [self.side(side) for side in SIDES]
        depth = []
        for rows in sides:
            prices = list(dict.fromkeys(row["price"] for row in rows))
            depth.append([(p, sum(row["shown"] for row in rows if row["price"] == p)) for p in prices])
        return {
            "resting": [[row["number"] for row in rows] for rows in sides],
            "depth": depth,
            "left": [row["left"] for rows in sides for row in rows],
            "shown": [row["shown"] for rows in sides for row in rows],
            "last": self.trades[-1][0] if self.trades else None,
            "volume": sum(many for price, many in self.trades),
            "calling": self.calling,
            "crossed": all(sides) and sides[0][0]["price"] >= sides[1][0]["price"],
        }

    def is_order(self, side, price, many, shows, way):
        return (
            side in SIDES and way in ("rest", "now", "whole") and 1 <= many <= 10000
            and (way != "rest" if price is None else 1 <= price <= 1000000000)
            and (shows is None or way == "rest" and 1 <= shows <= many)
        )

    def place(self, owner, side, price, many, shows, way):
        if not self.is_order(side, price, many, shows, way):
            raise BadOrder
        if self.calling and way != "rest":
            raise NotNow
        row = {"number": self.came, "owner": owner, "side": side, "price": price, "left": many, "shows": shows}
        self.came += 1
        others = [o for o in self.side(other_side(side)) if self.suits(o["price"], row) and o["owner"] != owner]
        happened = []
        if not self.calling and (way != "whole" or sum(o["left"] for o in others) >= many):
            happened = self.meet(row)
        if way == "rest" and row["left"]:
            self.put(row)
        return row["number"], happened

    def meet(self, row):
        happened = []
        while row["left"]:
            other = next(iter(self.side(other_side(row["side"]))), None)
            if other is None or not self.suits(other["price"], row):
                break
            if other["owner"] == row["owner"]:
                self.take(other)
                happened.append(("out", other["number"]))
                continue
            many = min(row["left"], other["shown"])
            for part in ((row, "left"), (other, "left"), (other, "shown")):
                part[0][part[1]] -= many
            self.trades.append((other["price"], many))
            happened.append(("trade", other["number"], other["price"], many))
            if not other["left"]:
                self.take(other)
            elif not other["shown"]:
                self.put(other)
        return happened

    def cancel(self, number):
        row = self.row(number)
        self.take(row)
        return row["left"]

    def change(self, number, many):
        row = self.row(number)
        if not 1 <= many <= 10000:
            raise BadOrder
        before = row["left"]
        row["left"] = many
        if many > before:
            self.put(row)
        row["shown"] = min(row["shown"], many)

    def call(self):
        if self.calling:
            raise NotNow
        self.calling = True

    def call_price(self):
        found = []
        for price in {row["price"] for row in self.rows}:
            sums = [sum(r["left"] for r in self.side(side) if self.suits(price, r)) for side in SIDES]
            found.append((price, min(sums), abs(sums[0] - sums[1])))
        most = max([traded for price, traded, differ in found], default=0)
        if most == 0:
            return None
        found = [one for one in found if one[1] == most]
        found = [one for one in found if one[2] == min(other[2] for other in found)]
        if self.trades:
            near = [abs(one[0] - self.trades[-1][0]) for one in found]
            found = [one for one, far in zip(found, near) if far == min(near)]
        return min(found)[0], most

    def uncross(self):
        if not self.calling:
            raise NotNow
        answer = self.call_price()
        self.calling = False
        happened = []
        price, still = answer or (None, 0)
        while still:
            buy, sell = self.side("buy")[0], self.side("sell")[0]
            many = min(buy["left"], sell["left"], still)
            still -= many
            for row in (buy, sell):
                row["left"] -= many
                row["shown"] = self.may_show(row)
                if not row["left"]:
                    self.take(row)
            self.trades.append((price, many))
            happened.append(("trade", buy["number"], sell["number"], price, many))
        return happened


DEEDS = {"place": place, "cancel": cancel, "change": change, "call": call, "call_price": call_price, "uncross": uncross}


def draw_order(dice):
    way = dice.choice(("rest", "rest", "rest", "now", "whole"))
    many = dice.choice((1, 2, 3, 5, 8, 13, 30))
    price = dice.randint(95, 105)
    if dice.random() < 0.3 and way != "rest":
        price = None
    shows = None
    if dice.random() < 0.5 and way == "rest":
        shows = dice.randint(1, min(many, 4))
    drawn = [dice.randint(1, 4), dice.choice(SIDES), price, many, shows, way]
    if dice.random() < 0.05:
        spot = dice.randint(1, 5)
        drawn[spot] = {1: "Sell", 2: 0, 3: dice.choice((0, 10001)), 4: 10000, 5: "later"}[spot]
    return tuple(drawn)


# As rows of (name, arguments), so that the same deeds may be done to several books.
def draw_deeds(seed, many):
    dice = random.Random(seed)
    rows = []
    came = 0
    for _ in range(many):
        name = dice.choices(("place", "cancel", "change", "call", "uncross", "call_price"), (60, 8, 12, 3, 5, 3))[0]
        arguments = ()
        if name == "place":
            arguments = draw_order(dice)
            came += 1
        elif name == "cancel":
            arguments = (dice.randint(came - 15, came + 1),)
        elif name == "change":
            arguments = (dice.randint(came - 15, came + 1), dice.choice((0, 1, 2, 3, 5, 9, 14, 10001)))
        rows.append((name, arguments))
    return rows


def done(deed, *arguments):
    try:
        return deed(*arguments)
    except BookError as refusal:
        return type(refusal)


class AgainstTheSlowBookTest(unittest.TestCase):
    def test_both_books_answer_alike(self):
        for seed in range(60):
            book, slow = Book(), SlowBook()
            for step, (name, arguments) in enumerate(draw_deeds(seed, 150)):
                answer = done(DEEDS[name], book, *arguments)
                expected = done(getattr(slow, name), *arguments)
                where = (seed, step, name, arguments)
                self.assertEqual(answer, expected, where)
                self.assertEqual(told(book), slow.told(), where)
                self.assertEqual(call_price(book), slow.call_price(), where)

    def test_the_deeds_hold_enough_of_everything(self):
        seen = {}
        for seed in range(60):
            book = Book()
            for name, arguments in draw_deeds(seed, 150):
                answer = done(DEEDS[name], book, *arguments)
                kinds = [answer] if isinstance(answer, type) else []
                if name in ("place", "uncross") and not kinds:
                    kinds = [event[0] for event in (answer[1] if name == "place" else answer)]
                for kind in kinds + ["asked"]:
                    seen[name, kind] = seen.get((name, kind), 0) + 1
        wanted = (
            ("place", "trade"), ("place", "out"), ("place", BadOrder), ("place", NotNow), ("uncross", "trade"),
            ("uncross", NotNow), ("call", NotNow), ("cancel", NotThere), ("change", NotThere), ("change", BadOrder),
        )
        for one in wanted:
            self.assertGreater(seen.get(one, 0), 30, one)


# [0.2], without a second book: whatever is told by the deeds is held against what the book tells.
class NothingIsLostTest(unittest.TestCase):
    def setUp(self):
        self.given = {}
        self.gone = set()
        self.owners = {}
        self.traded = 0

    def note_trade(self, number, many):
        self.given[number] -= many

    def note(self, name, arguments, answer):
        if name == "place":
            number, happened = answer
            self.given[number] = arguments[3]
            self.owners[number] = arguments[0]
            for event in happened:
                self.note_event(number, event)
            if arguments[5] != "rest":
                self.gone.add(number)
        elif name == "cancel":
            self.assertEqual(answer, self.given[arguments[0]])
            self.gone.add(arguments[0])
        elif name == "change":
            self.given[arguments[0]] = arguments[1]
        elif name == "uncross":
            for _, buyer, seller, _, many in answer:
                self.traded += many
                self.note_trade(buyer, many)
                self.note_trade(seller, many)

    def note_event(self, number, event):
        if event[0] == "out":
            self.assertEqual(self.owners[event[1]], self.owners[number])
            self.gone.add(event[1])
        else:
            self.assertNotEqual(self.owners[event[1]], self.owners[number])
            self.traded += event[3]
            self.note_trade(event[1], event[3])
            self.note_trade(number, event[3])

    def assert_kept(self, book):
        if not book.is_calling():
            self.assertIs(book.is_crossed(), False)
            self.assertIsNone(call_price(book))
        self.assertEqual(book.volume(), self.traded)
        resting = book.resting("buy") + book.resting("sell")
        expected = {number for number, left in self.given.items() if left and number not in self.gone}
        self.assertEqual(len(resting), len(set(resting)))
        self.assertEqual(set(resting), expected)
        for number in resting:
            self.assertEqual(book.left(number), self.given[number])
            self.assertTrue(1 <= book.shown(number) <= book.left(number))

    def test_over_many_mixed_deeds(self):
        for seed in range(1000, 1040):
            self.setUp()
            book = Book()
            for name, arguments in draw_deeds(seed, 150):
                before = told(book)
                answer = done(DEEDS[name], book, *arguments)
                if isinstance(answer, type):
                    self.assertEqual(told(book), before)
                else:
                    self.note(name, arguments, answer)
                self.assert_kept(book)


# [0.2]
class BestOrderTest(unittest.TestCase):
    def assert_best(self, side, price, events, behind):
        sign = 1 if side == "buy" else -1
        prices = [sign * event[2] for event in events if event[0] == "trade"]
        self.assertEqual(prices, sorted(prices))
        if prices and price is not None:
            self.assertLessEqual(prices[-1], sign * price)
        if prices and behind:
            self.assertLessEqual(prices[-1], sign * behind[0][0])

    def test_no_better_price_is_passed_by(self):
        for seed in range(2000, 2030):
            book = Book()
            for name, arguments in draw_deeds(seed, 150):
                answer = done(DEEDS[name], book, *arguments)
                if name == "place" and isinstance(answer, tuple):
                    side, price = arguments[1:3]
                    self.assert_best(side, price, answer[1], book.depth(other_side(side)))

    def test_a_call_trades_as_much_as_any_one_price_lets_be_traded(self):
        dice = random.Random(3)
        for _ in range(200):
            book = Book()
            call(book)
            rows = [(dice.choice(SIDES), dice.randint(1, 12), dice.randint(1, 9)) for _ in range(dice.randint(1, 14))]
            for side, price, many in rows:
                place(book, 1, side, price, many, None, "rest")
            most = 0
            for price in range(1, 13):
                demand = sum(many for side, own, many in rows if side == "buy" and own >= price)
                supply = sum(many for side, own, many in rows if side == "sell" and own <= price)
                most = max(most, min(demand, supply))
            self.assertEqual(sum(trade[4] for trade in uncross(book)), most)
            self.assertEqual(book.volume(), most)
            self.assertIs(book.is_crossed(), False)


# [0.1]
class NoChanceTest(unittest.TestCase):
    def test_the_same_deeds_have_the_same_answers(self):
        for seed in range(10):
            deeds = draw_deeds(seed, 150)
            books = (Book(), Book())
            answers = [[done(DEEDS[name], book, *arguments) for name, arguments in deeds] for book in books]
            self.assertEqual(answers[0], answers[1])
            self.assertEqual(told(books[0]), told(books[1]))

    def test_what_the_deeds_told_binds_nobody(self):
        for seed in range(10):
            kept, spoilt = Book(), Book()
            for name, arguments in draw_deeds(seed, 150):
                done(DEEDS[name], kept, *arguments)
                answer = done(DEEDS[name], spoilt, *arguments)
                if name == "place" and isinstance(answer, tuple):
                    answer[1].append(("out", 0))
                if name == "uncross" and isinstance(answer, list):
                    answer.clear()
                for side in SIDES:
                    spoilt.resting(side).clear()
                    spoilt.depth(side).append((1, 1))
                self.assertEqual(told(spoilt), told(kept))


if __name__ == "__main__":
    unittest.main()
