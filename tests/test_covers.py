"""Covers and thin covers (points 6, 12 and 13)."""

import random
import unittest

from cheapcovers.covers import all_thin, is_cover, is_thin, thinned
from cheapcovers.errors import NoCover, NotFull
from tests.checks import Checks
from tests.plain import covers_by_hand, is_thin_by_hand, lots_of, thin_by_hand, thinned_by_hand, things_by_hand
from tests.samples import (
    FULL_STOCKS, LACKING_STOCKS, drawn_full, drawn_lacking, other_kinds, small_stocks, spoilt,
)

WANT_A_COVER = (is_thin, thinned)


class IsCover(Checks):
    def assert_no_cover(self, stock, thing):
        self.assert_told(False, is_cover, stock, thing)
        for told in WANT_A_COVER:
            self.assert_refused(NoCover, told, stock, thing)

    def test_all_lots_of_small_and_sample_stocks(self):
        for stock in small_stocks(4) + FULL_STOCKS[:5] + LACKING_STOCKS:
            covers = covers_by_hand(stock)
            for lot in lots_of(stock):
                if lot in covers:
                    self.assert_told(True, is_cover, stock, lot)
                else:
                    self.assert_no_cover(stock, lot)

    def test_drawn_lots_of_drawn_stocks(self):
        draw = random.Random(1)
        for stock in drawn_full(11) + drawn_lacking(12):
            for lot in draw.sample(lots_of(stock), min(12, 2 ** len(stock[1]))):
                if len(things_by_hand(stock, lot)) == stock[0]:
                    self.assert_told(True, is_cover, stock, lot)
                else:
                    self.assert_no_cover(stock, lot)

    def test_all_offers_are_a_cover_just_where_the_stock_is_full(self):
        for stock in FULL_STOCKS + drawn_full(13):
            self.assert_told(True, is_cover, stock, tuple(range(len(stock[1]))))
        for stock in LACKING_STOCKS + drawn_lacking(14):
            self.assert_no_cover(stock, tuple(range(len(stock[1]))))
            self.assert_no_cover(stock, ())

    def test_a_cover_with_one_thing_otherwise(self):
        draw = random.Random(2)
        for stock in FULL_STOCKS + drawn_full(15)[::7]:
            covers = covers_by_hand(stock)
            for cover in {covers[0], covers[-1], draw.choice(covers)}:
                for thing in spoilt(cover, len(stock[1])):
                    self.assert_no_cover(stock, thing)

    def test_things_of_other_kinds(self):
        for stock in FULL_STOCKS[2:4] + LACKING_STOCKS[:2]:
            for thing in other_kinds():
                if not (isinstance(thing, tuple) and thing in covers_by_hand(stock)):
                    self.assert_no_cover(stock, thing)
                self.assert_no_cover(stock, (0, thing, thing))

    def test_a_list_is_not_kept(self):
        stock = FULL_STOCKS[0]
        thing = [0]
        self.assertIs(is_cover(stock, thing), False)
        self.assertIs(is_cover(stock, tuple(thing)), True)
        self.assertIs(is_cover(stock, thing), False)


class Thin(Checks):
    def check_cover(self, stock, cover):
        self.assert_told(is_thin_by_hand(stock, cover), is_thin, stock, cover)
        left = self.assert_told(thinned_by_hand(stock, cover), thinned, stock, cover)
        self.assertIs(is_thin(stock, left), True, (stock, cover))
        self.assertLessEqual(set(left), set(cover))

    def test_told_values(self):
        stock = (3, (((0, 1), 5), ((1,), 2), ((2,), 12), ((0, 1, 2), 1)))
        self.assert_told(True, is_thin, stock, (0, 2))
        self.assert_told(False, is_thin, stock, (0, 1, 2))
        self.assert_told(True, is_thin, stock, (3,))
        self.assert_told(False, is_thin, stock, (2, 3))
        self.assert_told((0, 2), thinned, stock, (0, 2))
        self.assert_told((0, 2), thinned, stock, (0, 1, 2))
        self.assert_told((0, 2), thinned, stock, (0, 1, 2, 3))
        self.assert_told((3,), thinned, stock, (1, 2, 3))

    def test_the_greatest_number_is_looked_at_first(self):
        ring = (4, (((0, 1), 3), ((1, 2), 3), ((2, 3), 3), ((0, 3), 3)))
        self.assert_told((0, 2), thinned, ring, (0, 1, 2, 3))
        self.assert_told((0, 2), thinned, ring, (0, 1, 2))
        self.assert_told((1, 3), thinned, ring, (1, 2, 3))
        alike = (1, (((0,), 9), ((0,), 1), ((0,), 4)))
        self.assert_told((0,), thinned, alike, (0, 1, 2))
        self.assert_told((1,), thinned, alike, (1, 2))
        self.assert_told((2,), thinned, alike, (2,))

    def test_all_covers_of_small_and_sample_stocks(self):
        for stock in small_stocks(4) + FULL_STOCKS[:5]:
            for cover in covers_by_hand(stock):
                self.check_cover(stock, cover)

    def test_covers_of_drawn_stocks(self):
        draw = random.Random(3)
        for stock in drawn_full(21):
            covers = covers_by_hand(stock)
            for cover in {covers[0], covers[-1], draw.choice(covers), draw.choice(covers), draw.choice(covers)}:
                self.check_cover(stock, cover)

    def test_more_than_one_offer_goes(self):
        stock = FULL_STOCKS[5]
        self.assert_told((0,), thinned, stock, tuple(range(12)))
        self.assert_told((7,), thinned, stock, (7, 8, 9, 11))
        self.assert_told(False, is_thin, stock, (7, 8, 9, 11))


class AllThin(Checks):
    def test_told_values(self):
        self.assert_told([(0, 2)], all_thin, (3, (((0, 1), 5), ((1,), 2), ((2,), 12))))
        self.assert_told([(0, 2), (1, 3)], all_thin, (4, (((0, 1), 3), ((1, 2), 3), ((2, 3), 3), ((0, 3), 3))))
        self.assert_told([(0,), (1,)], all_thin, (1, (((0,), 1), ((0,), 1))))
        self.assert_told([(0, 1, 2), (0, 3), (4,)], all_thin,
                         (3, (((0,), 1), ((1,), 1), ((2,), 1), ((1, 2), 1), ((0, 1, 2), 1))))

    def test_all_small_and_sample_stocks(self):
        for stock in FULL_STOCKS + small_stocks(4):
            if covers_by_hand(stock):
                self.assert_told(thin_by_hand(stock), all_thin, stock)

    def test_drawn_stocks(self):
        for stock in drawn_full(31):
            self.assert_told(thin_by_hand(stock), all_thin, stock)

    def test_stocks_that_are_not_full(self):
        for stock in LACKING_STOCKS + drawn_lacking(32):
            self.assert_refused(NotFull, all_thin, stock)

    def test_a_told_list_is_the_askers_own(self):
        for stock in FULL_STOCKS:
            self.assert_own_list(all_thin, stock)


if __name__ == "__main__":
    unittest.main()
