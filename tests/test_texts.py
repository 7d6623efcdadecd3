"""Texts of stocks, lots and fractions, and stocks and lots read from them (point 111)."""

import random
import re
import unittest

from cheapcovers.errors import NoText
from cheapcovers.stocks import is_stock
from cheapcovers.texts import fraction_text, lot_read, lot_text, stock_read, stock_text
from tests.checks import Checks
from tests.plain import is_stock_by_hand, subsets
from tests.samples import (
    FULL_STOCKS, LACKING_STOCKS, drawn_again, drawn_full, drawn_lacking, other_kinds, small_stocks,
)

NUMBER = "(?:0|[1-9][0-9]{0,39})"
SIGNS = "0123456789 ,=:/-+.ax\n\t_#"
GREAT = 10 ** 40 - 1


def stock_text_by_hand(stock):
    text = f"{stock[0]} :"
    for things, price in stock[1]:
        text += " " + ",".join(f"{thing}" for thing in things) + f"={price}"
    return text


def lot_text_by_hand(lot):
    return " ".join(f"{number}" for number in lot) or "none"


def stock_read_by_hand(text):
    """The stock that the text is of; None of all else."""
    if not isinstance(text, str) or not re.fullmatch(f"{NUMBER} :(?: {NUMBER}(?:,{NUMBER})*={NUMBER})*", text):
        return None
    many, offers = text.split(" :")
    found = []
    for word in offers.split():
        things, price = word.split("=")
        found.append((tuple(int(thing) for thing in things.split(",")), int(price)))
    stock = (int(many), tuple(found))
    return stock if is_stock_by_hand(stock) else None


def lot_read_by_hand(text):
    if text == "none":
        return ()
    if not isinstance(text, str) or not re.fullmatch(f"{NUMBER}(?: {NUMBER})*", text):
        return None
    lot = tuple(int(word) for word in text.split())
    return lot if list(lot) == sorted(set(lot)) else None


def near(text):
    """The text with one sign left out, put in or changed, two exchanged, or a piece of it."""
    found = [text + " ", " " + text, text + "\n", "\n" + text, text + ",", text.upper(), text * 2, text + " " + text,
             text.replace(" ", "  "), text.replace(" ", "\t"), text.replace(",", ", "), text.replace(":", "")]
    for at in range(len(text) + 1):
        found.extend([text[:at], text[at:], text[:at] + text[at + 1:]])
        for sign in SIGNS:
            found.extend([text[:at] + sign + text[at:], text[:at] + sign + text[at + 1:]])
        if at + 1 < len(text):
            found.append(text[:at] + text[at + 1] + text[at] + text[at + 2:])
    return found


class Written(Checks):
    def test_told_stocks(self):
        self.assert_told("3 : 0,1=5 2=12", stock_text, (3, (((0, 1), 5), ((2,), 12))))
        self.assert_told("1 :", stock_text, (1, ()))
        self.assert_told("10 :", stock_text, (10, ()))
        self.assert_told("10 : 0,1,2,3,4,5,6,7,8,9=1", stock_text, (10, ((tuple(range(10)), 1),)))
        self.assert_told("1 : 0=" + "9" * 40, stock_text, (1, (((0,), GREAT),)))

    def test_told_lots(self):
        self.assert_told("none", lot_text, ())
        self.assert_told("0", lot_text, (0,))
        self.assert_told("0 2 11", lot_text, (0, 2, 11))
        self.assert_told("7 " + "9" * 40, lot_text, (7, GREAT))

    def test_told_fractions(self):
        for fraction, text in (((0, 1), "0"), ((5, 1), "5"), ((1, 2), "1/2"), ((7, 3), "7/3"), ((10, 1), "10"),
                               ((1, 10), "1/10"), ((GREAT, 1), "9" * 40), ((1, GREAT), "1/" + "9" * 40),
                               ((GREAT, 10 ** 39), "9" * 40 + "/1" + "0" * 39), ((-1, 2), "-1/2"), ((-3, 1), "-3")):
            self.assert_told(text, fraction_text, fraction)

    def test_stocks_are_written_and_read_again_alike(self):
        stocks = FULL_STOCKS + LACKING_STOCKS + small_stocks(3) + drawn_full(801) + drawn_lacking(802)
        for stock in stocks + drawn_again(803) + [(many, ()) for many in range(1, 11)]:
            text = self.assert_told(stock_text_by_hand(stock), stock_text, stock)
            self.assert_told(stock, stock_read, text)

    def test_lots_are_written_and_read_again_alike(self):
        draw = random.Random(1)
        lots = subsets(range(8)) + [tuple(range(12)), (GREAT,), (0, 10 ** 39, GREAT), tuple(range(500))]
        for turn in range(100):
            numbers = {draw.randrange(10 ** draw.randint(1, 40)) for place in range(draw.randint(1, 20))}
            lots.append(tuple(sorted(numbers)))
        for lot in lots:
            text = self.assert_told(lot_text_by_hand(lot), lot_text, lot)
            self.assert_told(lot, lot_read, text)


class Read(Checks):
    def check_stock_text(self, text):
        stock = stock_read_by_hand(text)
        if stock is None:
            self.assert_refused(NoText, stock_read, text)
            return 0
        self.assert_told(stock, stock_read, text)
        self.assertIs(is_stock(stock), True)
        self.assertEqual(stock_text(stock), text)
        return 1

    def check_lot_text(self, text):
        lot = lot_read_by_hand(text)
        if lot is None:
            self.assert_refused(NoText, lot_read, text)
            return 0
        self.assert_told(lot, lot_read, text)
        self.assertEqual(lot_text(lot), text)
        return 1

    def test_told_refusals_of_stocks(self):
        for text in ("", " ", ":", " :", "3", "3 ", "3:", "3  :", "3 : ", " 3 :", "3 :0=1", "03 :", "0 :", "11 :", "3 ::",
                     "3 : 0", "3 : =1", "3 : 0=", "3 : 0=0", "3 : 0=01", "3 : 00=1", "3 : 0,=1", "3 : ,0=1",
                     "3 : 0,,1=1", "3 : 1,0=1", "3 : 0,0=1", "3 : 3=1", "3 : 0=1=1", "3 : 0=1  1=1", "3 : 0=1 ",
                     "3 : 0 =1", "3 : 0= 1", "3 : 0, 1=1", "3 : 0=-1", "3 : 0=+1", "3 : 0=1.0", "3 : 0=1_0",
                     "3 : 0=1\n", "3 : 0=1" + "0" * 40, "3 : none=1", "none", "-1 :", "+3 :", "3 : 0=1,1=1",
                     "3 ; 0=1", "3 : 0:1", "1 :" + " 0=1" * 13, "1" * 41 + " :", "3 : 0=1 :", "three :"):
            self.assert_refused(NoText, stock_read, text)
        self.assert_told((1, (((0,), 1),) * 12), stock_read, "1 :" + " 0=1" * 12)

    def test_told_refusals_of_lots(self):
        for text in ("", " ", "none ", " none", "None", "none none", "none 0", "0 none", "0  1", " 0", "0 ", "1 0", "0 0",
                     "00", "01", "0 01", "-1", "+1", "0,1", "0 x", "1.0", "1_0", "0\n", "0\t1", "0\n1", "1" * 41,
                     "0 " + "9" * 41, "()", "(0,)", "0 2 1", "NONE", "non", "nonee"):
            self.assert_refused(NoText, lot_read, text)

    def test_forty_figures_and_one_more(self):
        self.assert_told((1, (((0,), GREAT),)), stock_read, "1 : 0=" + "9" * 40)
        self.assert_told((10 ** 39,), lot_read, "1" + "0" * 39)
        self.assert_refused(NoText, stock_read, "1 : 0=1" + "0" * 40)
        self.assert_refused(NoText, lot_read, "1" + "0" * 40)
        self.assert_refused(NoText, lot_read, "0" * 40)
        self.assert_refused(NoText, lot_read, "9" * 2000)

    def test_texts_of_stocks_with_a_sign_otherwise(self):
        draw = random.Random(2)
        read = 0
        for stock in FULL_STOCKS[:4] + LACKING_STOCKS[:5] + draw.sample(drawn_full(811, 4), 8):
            for text in near(stock_text_by_hand(stock)):
                read += self.check_stock_text(text)
        self.assertGreater(read, 1000)

    def test_texts_of_lots_with_a_sign_otherwise(self):
        read = 0
        for lot in [(), (0,), (7,), (0, 1), (0, 2, 11), (10, 20), (9, 10, 11, 100), (10 ** 39,), (0, GREAT)]:
            for text in near(lot_text_by_hand(lot)):
                read += self.check_lot_text(text)
        self.assertGreater(read, 500)

    def test_figures_of_other_alphabets(self):
        for sign in ("\u0663", "\u00b2", "\uff13", "\u0966"):
            self.assert_refused(NoText, lot_read, sign)
            self.assert_refused(NoText, stock_read, sign + " :")
            self.assert_refused(NoText, stock_read, "3 : 0=" + sign)

    def test_things_of_other_kinds(self):
        things = other_kinds() + [FULL_STOCKS[0], (0, 1), ["3 :"], ("3 :",), {"3 :": 1}, ["none"], ("none",), ["0"]]
        for thing in things:
            if not isinstance(thing, str):
                self.assert_refused(NoText, stock_read, thing)
                self.assert_refused(NoText, lot_read, thing)
            else:
                self.check_stock_text(thing)
                self.check_lot_text(thing)


if __name__ == "__main__":
    unittest.main()
