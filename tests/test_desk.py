"""The desk: deeds, questions, and rows that are none (point 112)."""

import random
import re
import unittest
from fractions import Fraction

from cheapcovers.balance import balanced
from cheapcovers.desk import Desk
from cheapcovers.errors import NoCover, NoOffer, NoRow, NoStock, NotFull
from cheapcovers.shares import is_bearing, is_sharing, shared_price, worth_of
from tests.checks import Checks
from tests.plain import (
    covers_by_hand, is_stock_by_hand, is_thin_by_hand, lots_of, needed_by_hand, ordered_by_hand, price_by_hand,
    rising_by_hand, things_by_hand, way_by_hand,
)
from tests.samples import FULL_STOCKS, LACKING_STOCKS, drawn_again, drawn_full, drawn_lacking, other_kinds

NUMBER = "(0|[1-9][0-9]{0,39})"
FORMS = (f"things {NUMBER}", f"offer ({NUMBER}(?:,{NUMBER})*) {NUMBER}", f"price {NUMBER} {NUMBER}", f"drop {NUMBER}",
         "back", "stock", "full", "cover", "bargain", "bears", "needed", f"(?:has|thin) (none|{NUMBER}(?: {NUMBER})*)")
OF_A_FULL_STOCK = ("cover", "bargain", "bears", "needed")
SIGNS = "0123456789 ,=:/-+.ax\n\t_"


def is_row_by_hand(row):
    """Whether it is a row by its form alone."""
    if not isinstance(row, str) or not any(re.fullmatch(form, row) for form in FORMS):
        return False
    words = row.split(" ")
    if words[0] == "offer":
        numbers = [int(word) for word in words[1].split(",")]
    elif words[0] in ("has", "thin") and words[1] != "none":
        numbers = [int(word) for word in words[1:]]
    else:
        numbers = []
    return numbers == sorted(set(numbers))


def text_of(numbers):
    return " ".join(str(number) for number in numbers) or "none"


def stock_text_by_hand(stock):
    return f"{stock[0]} :" + "".join(f" {','.join(map(str, things))}={price}" for things, price in stock[1])


def worth_by_hand(stock):
    """The worth of a bearing that a sharing of the same price shows to be the most."""
    bearing, sharing = balanced(stock)
    assert is_bearing(stock, bearing) and is_sharing(stock, sharing)
    assert worth_of(stock, bearing) == shared_price(stock, sharing)
    return sum(Fraction(*share) for share in bearing)


def rows_of(stock):
    """Rows that bring a stock to the desk."""
    return [f"things {stock[0]}"] + [f"offer {','.join(map(str, things))} {price}" for things, price in stock[1]]


def desk_with(stock):
    desk = Desk()
    for row in rows_of(stock):
        assert desk.say(row) == "ok"
    return desk


class PlainDesk:
    """A desk apart from the program's: tells the answer, or the class by which a row is refused."""

    def __init__(self):
        self.stocks = [(1, ())]

    def answer(self, row):
        if not is_row_by_hand(row):
            return NoRow
        words = row.split(" ")
        if words[0] in ("things", "offer", "price", "drop"):
            return self.deed(words)
        if words[0] == "back":
            if len(self.stocks) == 1:
                return NoRow
            self.stocks.pop()
            return "ok"
        if words[0] in ("has", "thin"):
            lot = () if words[1] == "none" else tuple(int(word) for word in words[1:])
            return self.of_lot(words[0], lot)
        return self.question(words[0])

    def deed(self, words):
        many, offers = self.stocks[-1]
        offers = list(offers)
        if words[0] == "things":
            many, offers = int(words[1]), []
        elif words[0] == "offer":
            offers.append((tuple(int(word) for word in words[1].split(",")), int(words[2])))
        else:
            number = int(words[1])
            if number >= len(offers):
                return NoOffer
            if words[0] == "drop":
                offers.pop(number)
            else:
                offers[number] = (offers[number][0], int(words[2]))
        stock = (many, tuple(offers))
        if not is_stock_by_hand(stock):
            return NoStock
        self.stocks.append(stock)
        return "ok"

    def of_lot(self, word, lot):
        stock = self.stocks[-1]
        if not rising_by_hand(lot, len(stock[1])):
            return NoCover
        things = things_by_hand(stock, lot)
        if word == "has":
            return text_of(things)
        if len(things) < stock[0]:
            return NoCover
        return "yes" if is_thin_by_hand(stock, lot) else "no"

    def question(self, word):
        stock = self.stocks[-1]
        full = len(things_by_hand(stock, range(len(stock[1])))) == stock[0]
        if word == "stock":
            return stock_text_by_hand(stock)
        if word == "full":
            return "yes" if full else "no"
        if not full:
            return NotFull
        if word == "cover":
            lot = ordered_by_hand(stock)[0]
            return f"{text_of(lot)} = {price_by_hand(stock, lot)}"
        if word == "bargain":
            lot = sorted(offer for offer, things, each in way_by_hand(stock))
            return f"{text_of(lot)} = {price_by_hand(stock, lot)}"
        return str(worth_by_hand(stock)) if word == "bears" else text_of(needed_by_hand(stock))


class DeskChecks(Checks):
    def assert_answer(self, answer, desk, row):
        if isinstance(answer, str):
            told = desk.say(row)
            self.assertIs(type(told), str, row)
            self.assertEqual(told, answer, row)
        else:
            self.assert_refused(answer, desk.say, row)

    def assert_answers(self, desk, rows):
        for row, answer in rows:
            self.assert_answer(answer, desk, row)

    def assert_no_row(self, desk, row):
        """Refused with NoRow, with nothing changed."""
        before = desk.say("stock")
        self.assert_refused(NoRow, desk.say, row)
        self.assertEqual(desk.say("stock"), before)


class Deeds(DeskChecks):
    def test_at_first(self):
        self.assert_answers(Desk(), (
            ("stock", "1 :"), ("full", "no"), ("has none", "none"), ("cover", NotFull), ("bargain", NotFull),
            ("bears", NotFull), ("needed", NotFull), ("thin none", NoCover), ("has 0", NoCover), ("back", NoRow),
            ("drop 0", NoOffer), ("price 0 1", NoOffer), ("stock", "1 :"),
        ))

    def test_told_rows(self):
        self.assert_answers(Desk(), (
            ("things 3", "ok"), ("stock", "3 :"), ("offer 0,1 5", "ok"), ("offer 1 2", "ok"), ("full", "no"),
            ("offer 2 12", "ok"), ("stock", "3 : 0,1=5 1=2 2=12"), ("full", "yes"), ("cover", "0 2 = 17"),
            ("bargain", "0 1 2 = 19"), ("bears", "17"), ("needed", "0 2"), ("has 0 1", "0 1"), ("has none", "none"),
            ("has 0 1 2", "0 1 2"), ("thin 0 2", "yes"), ("thin 0 1 2", "no"), ("thin 0 1", NoCover),
            ("thin none", NoCover), ("has 3", NoCover), ("thin 0 3", NoCover), ("price 1 3", "ok"),
            ("stock", "3 : 0,1=5 1=3 2=12"), ("bargain", "0 2 = 17"), ("drop 0", "ok"), ("stock", "3 : 1=3 2=12"),
            ("has 1", "2"), ("cover", NotFull), ("back", "ok"), ("stock", "3 : 0,1=5 1=3 2=12"), ("back", "ok"),
            ("stock", "3 : 0,1=5 1=2 2=12"), ("things 2", "ok"), ("stock", "2 :"), ("back", "ok"), ("back", "ok"),
            ("stock", "3 : 0,1=5 1=2"), ("back", "ok"), ("back", "ok"), ("stock", "3 :"), ("back", "ok"),
            ("stock", "1 :"), ("back", NoRow), ("stock", "1 :"),
        ))

    def test_no_number_is_told_as_none(self):
        desk = desk_with((1, (((0,), 3), ((0,), 3))))
        self.assert_answers(desk, (("needed", "none"), ("has none", "none"), ("cover", "0 = 3"), ("bears", "3")))

    def test_a_worth_that_is_no_whole_number(self):
        desk = desk_with((3, (((0, 1), 1), ((1, 2), 1), ((0, 2), 1))))
        self.assert_answers(desk, (("bears", "3/2"), ("cover", "0 1 = 2"), ("needed", "none")))

    def test_great_prices(self):
        desk = desk_with((2, (((0,), 10 ** 40 - 1), ((1,), 10 ** 40 - 1))))
        self.assert_answers(desk, (("cover", f"0 1 = {2 * (10 ** 40 - 1)}"), ("bears", f"{2 * (10 ** 40 - 1)}"),
                                   ("stock", "2 : 0=" + "9" * 40 + " 1=" + "9" * 40)))

    def test_no_stock_would_come(self):
        desk = desk_with((3, (((0, 1), 5), ((2,), 12))))
        for row in ("things 0", "things 11", "things " + "9" * 40, "offer 3 1", "offer 0,3 1", "offer 0 0", "offer 10 1",
                    "offer 0,1,2,3 1", "offer " + "9" * 40 + " 1", "price 0 0", "price 1 0", "offer 3 0"):
            self.assert_answer(NoStock, desk, row)
            self.assert_answer("3 : 0,1=5 2=12", desk, "stock")
        for many in range(1, 11):
            self.assert_answer("ok", desk, f"things {many}")
            self.assert_answer(f"{many} :", desk, "stock")

    def test_more_than_twelve_offers(self):
        desk = desk_with(FULL_STOCKS[5])
        before = desk.say("stock")
        self.assert_answers(desk, (("offer 0 1", NoStock), ("offer 0,1,2,3,4,5,6,7,8,9 1", NoStock), ("stock", before),
                                   ("drop 11", "ok"), ("offer 0 1", "ok"), ("offer 0 1", NoStock)))

    def test_what_is_no_offer_goes_ahead_of_what_is_no_price(self):
        desk = desk_with((3, (((0, 1), 5), ((2,), 12))))
        for row in ("price 2 1", "price 2 0", "price " + "9" * 40 + " 0", "drop 2", "drop 12", "drop " + "9" * 40):
            self.assert_answer(NoOffer, desk, row)
            self.assert_answer("3 : 0,1=5 2=12", desk, "stock")

    def test_refused_deeds_are_none_that_back_undoes(self):
        desk = Desk()
        self.assert_answers(desk, (
            ("things 2", "ok"), ("offer 0 1", "ok"), ("offer 2 1", NoStock), ("drop 1", NoOffer), ("things 0", NoStock),
            ("price 0 0", NoStock), ("nonsense", NoRow), ("cover", NotFull), ("back", "ok"), ("stock", "2 :"),
            ("back", "ok"), ("stock", "1 :"), ("back", NoRow),
        ))

    def test_a_deed_that_leaves_all_as_it_was_is_one(self):
        self.assert_answers(Desk(), (
            ("things 1", "ok"), ("offer 0 4", "ok"), ("price 0 4", "ok"), ("back", "ok"), ("stock", "1 : 0=4"),
            ("back", "ok"), ("stock", "1 :"), ("back", "ok"), ("back", NoRow),
        ))

    def test_those_behind_a_dropped_offer_are_numbered_one_less(self):
        desk = desk_with((4, (((0,), 1), ((1,), 2), ((2,), 3), ((3,), 4))))
        self.assert_answers(desk, (
            ("drop 1", "ok"), ("has 1", "2"), ("has 2", "3"), ("has 0", "0"), ("has 3", NoCover),
            ("stock", "4 : 0=1 2=3 3=4"), ("price 1 9", "ok"), ("stock", "4 : 0=1 2=9 3=4"),
        ))

    def test_back_through_all_deeds(self):
        draw = random.Random(1)
        for stock in drawn_again(901)[::6]:
            desk = Desk()
            seen = []
            for row in rows_of(stock):
                seen.append(desk.say("stock"))
                desk.say(row)
            for turn in range(8):
                count = len(stock[1])
                row = draw.choice((f"price {draw.randrange(count)} {draw.randint(1, 9)}", "drop 0", "things 4",
                                   "offer 0 1"))
                before = desk.say("stock")
                try:
                    desk.say(row)
                    seen.append(before)
                except (NoOffer, NoStock):
                    self.assertEqual(desk.say("stock"), before)
            while seen:
                self.assert_answer("ok", desk, "back")
                self.assert_answer(seen.pop(), desk, "stock")
            self.assert_answer(NoRow, desk, "back")

    def test_two_desks(self):
        one, other = Desk(), Desk()
        one.say("things 2")
        self.assert_answer("1 :", other, "stock")
        other.say("offer 0 7")
        self.assert_answer("2 :", one, "stock")
        self.assert_answer("1 : 0=7", other, "stock")
        one.say("back")
        self.assert_answer(NoRow, one, "back")
        self.assert_answer("1 : 0=7", other, "stock")
        self.assert_answer("1 :", Desk(), "stock")


class Questions(DeskChecks):
    def check_stock(self, stock):
        plain = PlainDesk()
        for row in rows_of(stock):
            plain.answer(row)
        desk = desk_with(stock)
        rows = ["stock", "full", "cover", "bargain", "bears", "needed"]
        draw = random.Random(2)
        lots = lots_of(stock)
        chosen = draw.sample(lots, min(6, len(lots))) + covers_by_hand(stock)[:2] + [(), lots[-1], (len(stock[1]),)]
        rows += [f"{word} {text_of(lot)}" for word in ("has", "thin") for lot in chosen]
        for row in rows + rows:
            self.assert_answer(plain.answer(row), desk, row)

    def test_full_stocks(self):
        for stock in FULL_STOCKS + drawn_full(911)[::2] + drawn_again(912)[::2]:
            self.check_stock(stock)

    def test_stocks_that_are_not_full(self):
        for stock in LACKING_STOCKS + drawn_lacking(913)[::2]:
            self.check_stock(stock)
            desk = desk_with(stock)
            for word in OF_A_FULL_STOCK:
                self.assert_answer(NotFull, desk, word)
            self.assert_answer("no", desk, "full")

    def test_questions_are_no_deeds(self):
        desk = desk_with(FULL_STOCKS[2])
        for row in ("stock", "full", "cover", "bargain", "bears", "needed", "has 0", "thin 0 2"):
            desk.say(row)
        desk.say("back")
        self.assert_answer("3 : 0,1=5 1=2", desk, "stock")


class NoRows(DeskChecks):
    def test_told_rows_that_are_none(self):
        desk = desk_with((3, (((0, 1), 5), ((1,), 2), ((2,), 12))))
        for row in ("", " ", "  ", "\n", "things", "things ", "things 3 ", " things 3", "things  3", "things 03", "things 3 1",
                    "things x", "things -1", "things +1", "things 3.0", "things 1_0", "Things 3", "THINGS 3", "thing 3",
                    "things 1" + "0" * 40, "things 3\n", "things\t3", "things 1,2", "things none", "offer", "offer 0",
                    "offer 5 0 1", "offer 0,1", "offer 0,1 5 1", "offer 1,0 5", "offer 0,0 5", "offer ,0 5", "offer 0, 5",
                    "offer 0,,1 5", "offer  5", "offer 0 ,1 5", "offer 0, 1 5", "offer 00 5", "offer 0 05", "offer 0,01 5",
                    "offer none 5", "offer 0=5", "offer -1 5", "offer 0 -5", "offer 0 1" + "0" * 40,
                    "offer 0,1" + "0" * 40 + " 1", "price", "price 0", "price 0 1 2", "price 00 1", "price 0 01",
                    "price 0,1 1", "price x 1", "price 0 x", "price 0  1", "price none 1", "price 3 x", "drop",
                    "drop x", "drop 0 1", "drop 00", "drop none", "drop 0,1", "drop -1", "drop 1" + "0" * 40, "back 1",
                    "back ", " back", "back back", "stock 1", "stock ", " stock", "Stock", "stocks", "full 1", "full ",
                    "cover 0", "cover ", "bargain 0", "bargain ", "bears 0", "bears ", "needed 0", "needed ", "has",
                    "has ", "has  0", "has 0 ", "has 0  1", "has 1 0", "has 0 0", "has 00", "has 0,1", "has x",
                    "has none ", "has None", "has none 0", "has 0 none", "has none none", "has -1",
                    "has 1" + "0" * 40, "thin", "thin ", "thin 1 0", "thin 0 0", "thin 01", "thin 0,1", "thin x",
                    "thin  none", "thin 0 2 ", "undo", "ok", "yes", "none", "0", "3 :", "3 : 0,1=5", "come 0", "is 0"):
            self.assert_no_row(desk, row)

    def test_no_row_goes_ahead_of_all_else(self):
        desk = desk_with(LACKING_STOCKS[4])
        for row in ("price 9 00", "price 9 x", "drop 9 9", "drop 09", "offer 9 00", "offer 9,8 1", "offer 9", "things 0 0",
                    "things 00", "cover x", "bargain 1", "bears 1", "needed none", "thin 9 8", "has 9 9", "has 9 x",
                    "thin 9 none"):
            self.assert_no_row(desk, row)

    def test_things_of_other_kinds(self):
        desk = desk_with(FULL_STOCKS[2])
        for row in other_kinds() + [["stock"], ("stock",), {"stock": 1}, ["things", 3], ("back",), [["back"]]]:
            if row != "stock":
                self.assert_no_row(desk, row)
        self.assertEqual(desk.say("cover"), "0 2 = 17")

    def test_figures_of_other_alphabets(self):
        desk = desk_with(FULL_STOCKS[2])
        for sign in ("\u0663", "\u00b2", "\uff13"):
            for row in (f"things {sign}", f"offer {sign} 1", f"drop {sign}", f"has {sign}"):
                self.assert_no_row(desk, row)

    def test_forty_figures_are_let(self):
        desk = desk_with(FULL_STOCKS[2])
        self.assert_answers(desk, (
            ("price 0 " + "9" * 40, "ok"), ("drop " + "9" * 40, NoOffer), ("things " + "9" * 40, NoStock),
            ("has " + "9" * 40, NoCover), ("thin 0 " + "9" * 40, NoCover), ("offer " + "9" * 40 + " 1", NoStock),
            ("stock", "3 : 0,1=" + "9" * 40 + " 1=2 2=12"),
        ))

    def near(self, row):
        """The row with a sign left out, put in or changed, two exchanged, or a piece of it."""
        found = [row + " 0", row + " none", "0 " + row, row + " " + row, row + "  ", row.upper(), row.title()]
        for at in range(len(row) + 1):
            found.extend([row[:at], row[at:], row[:at] + row[at + 1:]])
            for sign in SIGNS:
                found.extend([row[:at] + sign + row[at:], row[:at] + sign + row[at + 1:]])
            if at + 1 < len(row):
                found.append(row[:at] + row[at + 1] + row[at] + row[at + 2:])
        return found

    def test_rows_with_a_sign_otherwise(self):
        stock = (3, (((0, 1), 5), ((1,), 2), ((2,), 12)))
        rows = ("things 3", "offer 0,1 5", "offer 2 10", "price 1 7", "drop 0", "back", "stock", "full", "cover",
                "bargain", "bears", "needed", "has 0 2", "has none", "thin 0 1 2", "thin none")
        seen = {True: 0, False: 0}
        for row in rows:
            for other in self.near(row):
                plain = PlainDesk()
                for first in rows_of(stock):
                    plain.answer(first)
                desk = desk_with(stock)
                self.assert_answer(plain.answer(other), desk, other)
                self.assert_answer(plain.answer("stock"), desk, "stock")
                seen[is_row_by_hand(other)] += 1
        self.assertGreater(min(seen.values()), 400)


class Talks(DeskChecks):
    def drawn_row(self, draw):
        number = str(draw.choice((0, 0, 1, 1, 2, 3, 4, 5, 9, 11, 12)))
        many = draw.randint(1, 6)
        things = ",".join(str(thing) for thing in sorted(draw.sample(range(7), draw.randint(1, 4))))
        lot = text_of(sorted(draw.sample(range(6), draw.randint(0, 4))))
        price = str(draw.choice((1, 2, 3, 4, 10 ** 39, 0)))
        return draw.choice((
            f"things {many}", f"offer {things} {price}", f"offer {things} {price}", f"offer {things} {price}",
            f"offer {things} {price}", f"price {number} {price}", f"drop {number}", "back", "stock", "full", "cover",
            "bargain", "bears", "needed", f"has {lot}", f"thin {lot}", f"has {number} {number}", f"{number} stock",
            f"offer {things}", f"price {price}", "back 1",
        ))

    def test_drawn_talks(self):
        for seed in range(60):
            draw = random.Random(seed)
            desk, plain = Desk(), PlainDesk()
            for turn in range(60):
                row = self.drawn_row(draw)
                if not row.startswith("things") or draw.random() < 0.3:
                    self.assert_answer(plain.answer(row), desk, row)
                    self.assert_answer(plain.answer("stock"), desk, "stock")


if __name__ == "__main__":
    unittest.main()
