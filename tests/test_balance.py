"""A bearing and a sharing whose worth and price are alike (points 7 and 43)."""

import random
import unittest
from fractions import Fraction

from cheapcovers.balance import balanced
from cheapcovers.errors import NotFull
from cheapcovers.shares import is_bearing, is_sharing, shared_price, worth_of
from tests.checks import Checks
from tests.plain import (
    as_pair, covers_by_hand, is_bearing_by_hand, is_sharing_by_hand, price_by_hand, shared_price_by_hand,
)
from tests.samples import FULL_STOCKS, LACKING_STOCKS, drawn_full, drawn_lacking, filled, small_stocks


class Balanced(Checks):
    def check_stock(self, stock):
        pair = balanced(stock)
        self.assert_told(pair, balanced, stock)
        self.assertIs(type(pair), tuple)
        bearing, sharing = pair
        self.assertTrue(is_bearing_by_hand(stock, bearing), stock)
        self.assertTrue(is_sharing_by_hand(stock, sharing), stock)
        worth = sum(Fraction(*share) for share in bearing)
        self.assertEqual(worth, shared_price_by_hand(stock, sharing), stock)
        self.assertIs(is_bearing(stock, bearing), True)
        self.assertIs(is_sharing(stock, sharing), True)
        self.assertEqual(worth_of(stock, bearing), shared_price(stock, sharing))
        return worth

    def check_worth(self, stock, worth):
        self.assertEqual(self.check_stock(stock), worth)
        self.assertEqual(worth_of(stock, balanced(stock)[0]), as_pair(Fraction(worth)))

    def test_told_values(self):
        self.check_worth((1, (((0,), 9),)), 9)
        self.check_worth((1, (((0,), 9), ((0,), 4), ((0,), 5))), 4)
        self.check_worth((3, (((0, 1), 5), ((1,), 2), ((2,), 12))), 17)
        self.check_worth((3, (((0, 1), 1), ((1, 2), 1), ((0, 2), 1))), Fraction(3, 2))
        self.check_worth((3, (((0, 1), 10 ** 39), ((1, 2), 10 ** 39 + 1), ((0, 2), 10 ** 39))),
                         Fraction(3 * 10 ** 39 + 1, 2))
        self.check_worth((5, tuple((tuple(sorted((k, (k + 1) % 5))), 2) for k in range(5))), 5)

    def test_seven_things_of_which_each_two_are_in_one_offer(self):
        lines = ((0, 1, 2), (0, 3, 4), (0, 5, 6), (1, 3, 5), (1, 4, 6), (2, 3, 6), (2, 4, 5))
        self.check_worth((7, tuple((line, 1) for line in lines)), Fraction(7, 3))

    def test_small_and_sample_stocks(self):
        for stock in FULL_STOCKS + small_stocks(4):
            if covers_by_hand(stock):
                self.check_stock(stock)

    def test_small_stocks_whose_prices_are_alike(self):
        for many, offers in small_stocks(5):
            stock = (many, tuple((things, 1) for things, price in offers))
            if covers_by_hand(stock):
                self.check_stock(stock)

    def test_drawn_stocks(self):
        for seed in range(121, 127):
            for stock in drawn_full(seed):
                self.check_stock(stock)

    def test_many_offers_of_as_many_things(self):
        draw = random.Random(9)
        for size in (2, 3, 4, 5, 6):
            for price in (lambda: 1, lambda: draw.randint(1, 3), lambda: draw.randint(10 ** 39, 10 ** 40 - 1)):
                for turn in range(12):
                    offers = tuple((tuple(sorted(draw.sample(range(10), size))), price()) for place in range(12))
                    self.check_stock(filled(draw, (10, offers)))

    def test_no_bearing_is_worth_more_than_any_cover_costs(self):
        for stock in drawn_full(128)[::2]:
            least = min(price_by_hand(stock, cover) for cover in covers_by_hand(stock))
            self.assertLessEqual(self.check_stock(stock), least)

    def test_stocks_that_are_not_full(self):
        for stock in LACKING_STOCKS + drawn_lacking(129):
            self.assert_refused(NotFull, balanced, stock)


if __name__ == "__main__":
    unittest.main()
