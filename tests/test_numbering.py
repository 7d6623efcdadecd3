"""Covers counted, and by number (points 6 and 22)."""

import random
import unittest

from cheapcovers.errors import NoCover, NoNumber, NotFull
from cheapcovers.numbering import cover_at, many_covers, many_upto, next_cover, number_of
from tests.checks import Checks
from tests.plain import covers_by_hand, lots_of, ordered_by_hand, price_by_hand
from tests.samples import (
    FULL_STOCKS, LACKING_STOCKS, drawn_full, drawn_lacking, other_kinds, small_stocks, spoilt,
)

NO_NUMBERS = [-1, -(10 ** 39), True, False, "", "0", "1", None, (), (0,), (1, 1), [], [0], {}, {0: 0}]


def small_full():
    stocks = [stock for stock in small_stocks(4) if covers_by_hand(stock)]
    alike = [(many, tuple((things, len(things)) for things, price in offers)) for many, offers in stocks]
    return stocks + alike


class Counts(Checks):
    def check_counts(self, stock):
        prices = [price_by_hand(stock, cover) for cover in covers_by_hand(stock)]
        self.assert_told(len(prices), many_covers, stock)
        least = min(prices)
        middle = sorted(prices)[len(prices) // 2]
        whole = price_by_hand(stock, range(len(stock[1])))
        asked = {0, 1, least - 1, least, least + 1, middle - 1, middle, middle + 1, whole - 1, whole, whole + 1}
        for price in asked | {10 ** 39}:
            self.assert_told(sum(1 for other in prices if other <= price), many_upto, stock, price)

    def test_told_values(self):
        stock = (3, (((0, 1), 5), ((1,), 2), ((2,), 12)))
        self.assert_told(2, many_covers, stock)
        for price, count in ((0, 0), (16, 0), (17, 1), (18, 1), (19, 2), (20, 2), (10 ** 39, 2)):
            self.assert_told(count, many_upto, stock, price)
        self.assert_told(4095, many_covers, FULL_STOCKS[5])
        self.assert_told(12, many_upto, FULL_STOCKS[5], 10 ** 39)
        self.assert_told(78, many_upto, FULL_STOCKS[5], 2 * 10 ** 39)

    def test_all_small_and_sample_stocks(self):
        for stock in FULL_STOCKS + small_full():
            self.check_counts(stock)

    def test_drawn_stocks(self):
        for stock in drawn_full(51)[::3]:
            self.check_counts(stock)

    def test_what_is_no_price(self):
        for stock in FULL_STOCKS[2:4] + LACKING_STOCKS[:3]:
            for price in NO_NUMBERS:
                self.assert_refused(NoNumber, many_upto, stock, price)
            for price in other_kinds():
                if not (type(price) is int and price >= 0):
                    self.assert_refused(NoNumber, many_upto, stock, price)

    def test_stocks_that_are_not_full(self):
        for stock in LACKING_STOCKS + drawn_lacking(52):
            self.assert_refused(NotFull, many_covers, stock)
            self.assert_refused(NotFull, many_upto, stock, 0)
            self.assert_refused(NotFull, many_upto, stock, 10 ** 39)


class ByNumber(Checks):
    def check_numbers(self, stock, covers, numbers):
        for number in numbers:
            self.assert_told(covers[number], cover_at, stock, number)
            self.assert_told(number, number_of, stock, covers[number])
            follower = covers[number + 1] if number + 1 < len(covers) else None
            self.assert_told(follower, next_cover, stock, covers[number])

    def test_told_values(self):
        stock = (2, (((0, 1), 4), ((0,), 2), ((1,), 2), ((0, 1), 3)))
        covers = [(3,), (0,), (1, 2), (1, 3), (2, 3), (0, 1), (0, 2), (0, 3), (1, 2, 3), (0, 1, 2), (0, 1, 3),
                  (0, 2, 3), (0, 1, 2, 3)]
        self.assertEqual(covers, ordered_by_hand(stock))
        self.check_numbers(stock, covers, range(len(covers)))

    def test_all_numbers_of_small_and_sample_stocks(self):
        for stock in FULL_STOCKS[:5] + small_full():
            covers = ordered_by_hand(stock)
            self.check_numbers(stock, covers, range(len(covers)))

    def test_first_last_and_other_numbers_of_drawn_stocks(self):
        draw = random.Random(4)
        for stock in FULL_STOCKS[5:] + drawn_full(61):
            covers = ordered_by_hand(stock)
            last = len(covers) - 1
            self.check_numbers(stock, covers, {0, last, last // 2, draw.randint(0, last), draw.randint(0, last)})
            for number in (last + 1, last + 2, -1, -last - 1, 4096, 10 ** 39):
                self.assert_refused(NoNumber, cover_at, stock, number)

    def test_all_covers_one_by_one(self):
        for stock in drawn_full(62, 7)[::5]:
            covers = ordered_by_hand(stock)
            walked = [cover_at(stock, 0)]
            while next_cover(stock, walked[-1]) is not None:
                walked.append(next_cover(stock, walked[-1]))
            self.assertEqual(walked, covers)
            self.assertEqual([cover_at(stock, number) for number in range(many_covers(stock))], covers)
            self.assertEqual([number_of(stock, cover) for cover in covers], list(range(len(covers))))

    def test_what_is_no_number(self):
        for stock in FULL_STOCKS[2:4] + LACKING_STOCKS[:3]:
            for number in NO_NUMBERS:
                self.assert_refused(NoNumber, cover_at, stock, number)
            for number in other_kinds():
                if not (type(number) is int and 0 <= number < 10):
                    self.assert_refused(NoNumber, cover_at, stock, number)

    def test_no_number_is_had_where_there_is_no_cover(self):
        for stock in LACKING_STOCKS + drawn_lacking(63):
            for number in (0, 1, 4096, 10 ** 39):
                self.assert_refused(NoNumber, cover_at, stock, number)

    def test_lots_that_are_no_cover(self):
        for stock in FULL_STOCKS[:5] + small_full()[::3] + LACKING_STOCKS:
            covers = covers_by_hand(stock)
            for lot in lots_of(stock):
                if lot not in covers:
                    self.assert_refused(NoCover, number_of, stock, lot)
                    self.assert_refused(NoCover, next_cover, stock, lot)

    def test_a_cover_with_one_thing_otherwise(self):
        for stock in FULL_STOCKS + drawn_full(64)[::9]:
            covers = covers_by_hand(stock)
            for cover in {covers[0], covers[-1]}:
                for thing in spoilt(cover, len(stock[1])):
                    self.assert_refused(NoCover, number_of, stock, thing)
                    self.assert_refused(NoCover, next_cover, stock, thing)

    def test_what_is_no_cover_of_whatever_kind(self):
        for stock in FULL_STOCKS[2:4] + LACKING_STOCKS[:2]:
            for thing in other_kinds():
                self.assert_refused(NoCover, number_of, stock, thing)
                self.assert_refused(NoCover, next_cover, stock, thing)


if __name__ == "__main__":
    unittest.main()
