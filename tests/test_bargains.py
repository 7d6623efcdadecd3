"""Bargains, the way of bargains and its cover (points 2, 31 and 32)."""

import random
import unittest

from cheapcovers.bargains import bargain_cover, bargain_of, bargain_way, best_bargain
from cheapcovers.errors import NoCover, NoOffer, NotFull
from tests.checks import Checks
from tests.plain import as_pair, bargain_by_hand, best_by_hand, covers_by_hand, lots_of, things_by_hand, way_by_hand
from tests.samples import (
    FULL_STOCKS, LACKING_STOCKS, drawn_full, drawn_lacking, other_kinds, small_stocks, spoilt,
)


class Bargains(Checks):
    def check_lot(self, stock, lot):
        for number in range(len(stock[1])):
            right = bargain_by_hand(stock, number, lot)
            self.assert_told(None if right is None else as_pair(right), bargain_of, stock, number, lot)
        self.assert_told(best_by_hand(stock, lot), best_bargain, stock, lot)

    def test_told_values(self):
        stock = (5, (((0, 1, 2, 3), 6), ((0, 1), 4), ((1, 2, 3), 10 ** 39), ((3,), 1)))
        self.assert_told((3, 2), bargain_of, stock, 0, ())
        self.assert_told((2, 1), bargain_of, stock, 1, ())
        self.assert_told((10 ** 39, 3), bargain_of, stock, 2, ())
        self.assert_told((1, 1), bargain_of, stock, 3, ())
        self.assert_told((3, 1), bargain_of, stock, 0, (1,))
        self.assert_told((2, 1), bargain_of, stock, 0, (3,))
        self.assert_told(None, bargain_of, stock, 1, (1,))
        self.assert_told(None, bargain_of, stock, 3, (2,))
        self.assert_told(3, best_bargain, stock, ())
        self.assert_told(0, best_bargain, stock, (3,))
        self.assert_told(None, best_bargain, stock, (0,))
        self.assert_told(None, best_bargain, stock, (0, 1, 2, 3))

    def test_of_several_best_ones_alike_the_least_number(self):
        stock = (4, (((0, 1, 2), 7), ((0, 1), 4), ((0,), 2), ((3,), 2), ((1, 2), 4)))
        self.assert_told(1, best_bargain, stock, ())
        self.assert_told(3, best_bargain, stock, (1,))
        self.assert_told(4, best_bargain, stock, (2, 3))
        great = 10 ** 39
        self.assert_told(1, best_bargain, (3, (((0, 1, 2), 3 * great + 1), ((0, 1), 2 * great), ((0,), great))), ())
        self.assert_told(0, best_bargain, (3, (((0, 1, 2), 3 * great - 1), ((0, 1), 2 * great), ((0,), great))), ())

    def test_none_where_the_lot_has_all_things(self):
        for stock in FULL_STOCKS + drawn_full(71)[::3]:
            whole = tuple(range(len(stock[1])))
            self.assert_told(None, best_bargain, stock, whole)
            for number in whole:
                self.assert_told(None, bargain_of, stock, number, whole)

    def test_none_where_no_offer_has_any_thing_left(self):
        for stock in LACKING_STOCKS + drawn_lacking(72):
            whole = tuple(range(len(stock[1])))
            self.assert_told(None, best_bargain, stock, whole)
            self.check_lot(stock, ())

    def test_all_lots_of_small_and_sample_stocks(self):
        for stock in small_stocks(3) + FULL_STOCKS[:4] + LACKING_STOCKS[:5]:
            for lot in lots_of(stock):
                self.check_lot(stock, lot)

    def test_drawn_lots_of_drawn_stocks(self):
        draw = random.Random(5)
        for stock in drawn_full(73) + drawn_lacking(74):
            self.check_lot(stock, ())
            for lot in draw.sample(lots_of(stock), min(4, 2 ** len(stock[1]))):
                self.check_lot(stock, lot)

    def test_what_is_no_offer(self):
        for stock in FULL_STOCKS + LACKING_STOCKS:
            count = len(stock[1])
            for offer in (-1, count, count + 1, -count - 1, 12, 10 ** 39, True, False, None, "0", "", (0,), [0], {}):
                self.assert_refused(NoOffer, bargain_of, stock, offer, ())
                self.assert_refused(NoOffer, bargain_of, stock, offer, None)
        for offer in other_kinds():
            if type(offer) is not int:
                self.assert_refused(NoOffer, bargain_of, FULL_STOCKS[3], offer, ())
                self.assert_refused(NoOffer, bargain_of, FULL_STOCKS[3], offer, [offer])

    def test_what_is_no_lot(self):
        for stock in FULL_STOCKS + LACKING_STOCKS[2:5] + drawn_full(75)[::9]:
            count = len(stock[1])
            for lot in ((), (0,), tuple(range(count))):
                for thing in spoilt(lot, count):
                    self.assert_refused(NoCover, best_bargain, stock, thing)
                    self.assert_refused(NoCover, bargain_of, stock, count - 1, thing)

    def test_what_is_no_lot_of_whatever_kind(self):
        for stock in FULL_STOCKS[:1] + LACKING_STOCKS[2:3]:
            for thing in other_kinds():
                self.assert_refused(NoCover, best_bargain, stock, thing)
                self.assert_refused(NoCover, bargain_of, stock, 0, thing)
                self.assert_refused(NoCover, bargain_of, stock, 0, (0, thing))


class Way(Checks):
    def check_way(self, stock):
        right = [(number, things, as_pair(each)) for number, things, each in way_by_hand(stock)]
        self.assert_told(right, bargain_way, stock)
        self.assert_told(tuple(sorted(number for number, things, each in right)), bargain_cover, stock)

    def check_steps(self, stock):
        lot = ()
        for number, things, each in bargain_way(stock):
            self.assertEqual(number, best_bargain(stock, lot))
            self.assertEqual(each, bargain_of(stock, number, lot))
            longer = tuple(sorted(lot + (number,)))
            gained = set(things_by_hand(stock, longer)) - set(things_by_hand(stock, lot))
            self.assertEqual(things, tuple(sorted(gained)))
            lot = longer
        self.assertEqual(lot, bargain_cover(stock))
        self.assertEqual(things_by_hand(stock, lot), tuple(range(stock[0])))

    def test_told_values(self):
        stock = (4, (((0, 1, 2, 3), 9), ((3,), 2), ((1, 2), 3), ((0, 3), 4)))
        self.assert_told([(2, (1, 2), (3, 2)), (1, (3,), (2, 1)), (3, (0,), (4, 1))], bargain_way, stock)
        self.assert_told((1, 2, 3), bargain_cover, stock)
        self.assert_told([(1, (0,), (1, 1))], bargain_way, (1, (((0,), 2), ((0,), 1), ((0,), 1))))
        self.assert_told((1,), bargain_cover, (1, (((0,), 2), ((0,), 1), ((0,), 1))))

    def test_a_cover_that_is_not_the_cheapest(self):
        stock = (3, (((0,), 2), ((1,), 3), ((2,), 6), ((0, 1, 2), 7)))
        self.assert_told([(0, (0,), (2, 1)), (1, (1,), (3, 1)), (2, (2,), (6, 1))], bargain_way, stock)
        self.assert_told((0, 1, 2), bargain_cover, stock)

    def test_small_and_sample_stocks(self):
        for stock in FULL_STOCKS + small_stocks(4):
            if covers_by_hand(stock):
                self.check_way(stock)
                self.check_steps(stock)

    def test_small_stocks_whose_prices_are_alike(self):
        for many, offers in small_stocks(4):
            stock = (many, tuple((things, 1) for things, price in offers))
            if covers_by_hand(stock):
                self.check_way(stock)

    def test_drawn_stocks(self):
        for stock in drawn_full(81) + drawn_full(82):
            self.check_way(stock)
            self.check_steps(stock)

    def test_stocks_that_are_not_full(self):
        for stock in LACKING_STOCKS + drawn_lacking(83):
            self.assert_refused(NotFull, bargain_way, stock)
            self.assert_refused(NotFull, bargain_cover, stock)

    def test_a_told_list_is_the_askers_own(self):
        for stock in FULL_STOCKS:
            self.assert_own_list(bargain_way, stock)


if __name__ == "__main__":
    unittest.main()
