"""The cheapest cover (points 6 and 21)."""

import unittest

from cheapcovers.cheapest import cheapest_cover
from cheapcovers.errors import NotFull
from tests.checks import Checks
from tests.plain import covers_by_hand, ordered_by_hand
from tests.samples import FULL_STOCKS, LACKING_STOCKS, drawn_full, drawn_lacking, small_stocks


class Cheapest(Checks):
    def test_one_that_is_alone(self):
        self.assert_told((0, 2), cheapest_cover, (3, (((0, 1), 5), ((1,), 2), ((2,), 12))))
        self.assert_told((1, 2), cheapest_cover, (2, (((0, 1), 5), ((0,), 2), ((1,), 2))))
        self.assert_told((0,), cheapest_cover, (2, (((0, 1), 3), ((0,), 2), ((1,), 2))))
        self.assert_told((1,), cheapest_cover, (1, (((0,), 10 ** 40 - 1), ((0,), 10 ** 40 - 2))))

    def test_of_several_of_one_price_the_first_as_lots_compare(self):
        self.assert_told((0,), cheapest_cover, (1, (((0,), 4), ((0,), 4))))
        self.assert_told((0,), cheapest_cover, (2, (((0, 1), 4), ((0,), 2), ((1,), 2))))
        self.assert_told((0, 1), cheapest_cover, (2, (((0,), 2), ((1,), 2), ((0, 1), 4))))
        self.assert_told((0, 2), cheapest_cover, (4, (((0, 1), 3), ((1, 2), 3), ((2, 3), 3), ((0, 3), 3))))
        self.assert_told((0, 3), cheapest_cover, (3, (((0,), 1), ((1, 2), 4), ((0,), 1), ((1, 2), 3), ((1, 2), 3))))
        self.assert_told((0, 1, 2, 3), cheapest_cover,
                         (4, (((0,), 1), ((1,), 1), ((2,), 1), ((3,), 1), ((0, 1, 2, 3), 4), ((2, 3), 2))))

    def test_sample_and_small_stocks(self):
        for stock in FULL_STOCKS + small_stocks(4):
            if covers_by_hand(stock):
                self.assert_told(ordered_by_hand(stock)[0], cheapest_cover, stock)

    def test_small_stocks_whose_prices_are_alike(self):
        for many, offers in small_stocks(5):
            stock = (many, tuple((things, len(things)) for things, price in offers))
            if covers_by_hand(stock):
                self.assert_told(ordered_by_hand(stock)[0], cheapest_cover, stock)

    def test_drawn_stocks(self):
        for stock in drawn_full(41) + drawn_full(42):
            self.assert_told(ordered_by_hand(stock)[0], cheapest_cover, stock)

    def test_stocks_that_are_not_full(self):
        for stock in LACKING_STOCKS + drawn_lacking(43):
            self.assert_refused(NotFull, cheapest_cover, stock)


if __name__ == "__main__":
    unittest.main()
