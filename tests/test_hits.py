"""Hits, the fewest things that hit each offer, and turned stocks (points 61 and 63)."""

import random
import unittest
from itertools import permutations

from cheapcovers.covers import is_cover
from cheapcovers.errors import NoStock, NotFull
from cheapcovers.hits import fewest_hit, is_hit, turned
from cheapcovers.stocks import is_full, is_stock
from tests.checks import Checks
from tests.plain import covers_by_hand, fewest_hit_by_hand, is_hit_by_hand, lots_of, subsets, things_by_hand
from tests.samples import (
    FULL_STOCKS, LACKING_STOCKS, drawn_again, drawn_full, drawn_lacking, other_kinds, small_stocks, spoilt,
)

NO_OFFERS = [(many, ()) for many in range(1, 11)]


class IsHit(Checks):
    def test_told_values(self):
        stock = (3, (((0, 1), 5), ((1,), 2), ((2,), 12)))
        self.assert_told(True, is_hit, stock, (1, 2))
        self.assert_told(True, is_hit, stock, (0, 1, 2))
        self.assert_told(False, is_hit, stock, (0, 2))
        self.assert_told(False, is_hit, stock, (1,))
        self.assert_told(False, is_hit, stock, ())
        self.assert_told(False, is_hit, stock, (2, 1))
        self.assert_told(False, is_hit, stock, (1, 1, 2))
        self.assert_told(False, is_hit, stock, (1, 2, 3))
        self.assert_told(False, is_hit, stock, (True, 2))
        self.assert_told(False, is_hit, stock, [1, 2])

    def test_all_tuples_of_things_of_small_and_sample_stocks(self):
        for stock in small_stocks(4) + FULL_STOCKS[:5] + LACKING_STOCKS[:5]:
            for things in subsets(range(stock[0])):
                self.assert_told(is_hit_by_hand(stock, things), is_hit, stock, things)

    def test_drawn_tuples_of_drawn_stocks(self):
        draw = random.Random(1)
        for stock in drawn_full(201) + drawn_lacking(202) + drawn_again(203):
            for turn in range(12):
                things = tuple(sorted(draw.sample(range(stock[0]), draw.randint(0, stock[0]))))
                self.assert_told(is_hit_by_hand(stock, things), is_hit, stock, things)

    def test_all_things_are_a_hit_and_none_only_of_no_offers(self):
        for stock in FULL_STOCKS + LACKING_STOCKS + NO_OFFERS + drawn_full(204) + drawn_lacking(205):
            self.assert_told(True, is_hit, stock, tuple(range(stock[0])))
            self.assert_told(stock[1] == (), is_hit, stock, ())

    def test_each_rising_tuple_is_a_hit_of_no_offers(self):
        for stock in NO_OFFERS[:6]:
            for things in subsets(range(stock[0])):
                self.assert_told(True, is_hit, stock, things)
            for things in permutations(range(stock[0]), min(3, stock[0])):
                self.assert_told(list(things) == sorted(things), is_hit, stock, things)

    def test_a_hit_with_one_thing_otherwise(self):
        for stock in FULL_STOCKS + LACKING_STOCKS + NO_OFFERS + drawn_full(206)[::7]:
            for hit in {tuple(range(stock[0])), fewest_hit_by_hand(stock)}:
                for thing in spoilt(hit, stock[0]):
                    self.assert_told(is_hit_by_hand(stock, thing), is_hit, stock, thing)
                self.assert_told(False, is_hit, stock, list(hit))
                for place in range(len(hit)):
                    for thing in (hit[:place] + hit[place + 1:], hit[place:] + hit[:place]):
                        self.assert_told(is_hit_by_hand(stock, thing), is_hit, stock, thing)

    def test_things_of_other_kinds(self):
        for stock in FULL_STOCKS + LACKING_STOCKS + NO_OFFERS[1:2]:
            for thing in other_kinds():
                self.assert_told(is_hit_by_hand(stock, thing), is_hit, stock, thing)


class FewestHit(Checks):
    def test_told_values(self):
        self.assert_told((1, 2), fewest_hit, (3, (((0, 1), 5), ((1,), 2), ((2,), 12))))
        self.assert_told((0, 2), fewest_hit, (4, (((0, 1), 3), ((1, 2), 3), ((2, 3), 3), ((0, 3), 3))))
        self.assert_told((3,), fewest_hit, (4, (((0, 3), 1), ((1, 3), 1), ((2, 3), 1))))
        self.assert_told((0,), fewest_hit, (10, ((tuple(range(10)), 10 ** 39),) * 12))
        self.assert_told((7,), fewest_hit, (10, (((7, 8, 9), 1), ((1, 7, 9), 1))))

    def test_fewer_things_go_ahead_of_lesser_ones(self):
        self.assert_told((2,), fewest_hit, (3, (((0, 2), 1), ((1, 2), 1))))
        self.assert_told((2, 3), fewest_hit, (4, (((0, 2), 1), ((1, 2), 1), ((3,), 1))))

    def test_of_no_offers(self):
        for stock in NO_OFFERS:
            self.assert_told((), fewest_hit, stock)

    def test_small_and_sample_stocks(self):
        for stock in small_stocks(4) + FULL_STOCKS + LACKING_STOCKS:
            self.assert_told(fewest_hit_by_hand(stock), fewest_hit, stock)

    def test_drawn_stocks(self):
        for stock in drawn_full(211) + drawn_full(212) + drawn_lacking(213) + drawn_again(214):
            hit = self.assert_told(fewest_hit_by_hand(stock), fewest_hit, stock)
            self.assertIs(is_hit(stock, hit), True)


class Turned(Checks):
    def turned_by_hand(self, stock):
        offers = []
        for thing in range(stock[0]):
            offers.append((tuple(number for number, offer in enumerate(stock[1]) if thing in offer[0]), 1))
        return (len(stock[1]), tuple(offers))

    def test_told_values(self):
        self.assert_told((3, (((0,), 1), ((0, 1), 1), ((2,), 1))), turned, (3, (((0, 1), 5), ((1,), 2), ((2,), 12))))
        self.assert_told((1, (((0,), 1),)), turned, (1, (((0,), 10 ** 39),)))
        self.assert_told((2, (((0, 1), 1),)), turned, (1, (((0,), 3), ((0,), 4))))
        self.assert_told((1, (((0,), 1),) * 10), turned, (10, ((tuple(range(10)), 7),)))

    def test_full_stocks_of_one_to_ten_offers(self):
        for stock in drawn_full(221, 10) + [stock for stock in small_stocks(4) if is_full(stock)]:
            other = self.assert_told(self.turned_by_hand(stock), turned, stock)
            self.assertIs(is_stock(other), True)
            self.assertIs(is_full(other), True)

    def test_turned_again_it_is_the_stock_at_prices_of_one(self):
        for stock in drawn_full(222, 10):
            self.assert_told((stock[0], tuple((things, 1) for things, price in stock[1])), turned, turned(stock))

    def test_hits_are_covers_of_the_turned_stock_and_covers_its_hits(self):
        draw = random.Random(2)
        for stock in drawn_full(223, 10) + drawn_full(224, 10)[::5]:
            other = turned(stock)
            everything = subsets(range(stock[0]))
            for things in draw.sample(everything, min(20, len(everything))) + [fewest_hit(stock)]:
                self.assertIs(is_cover(other, things), is_hit_by_hand(stock, things), (stock, things))
                self.assertIs(is_cover(other, things), is_hit(stock, things), (stock, things))
            lots = lots_of(stock)
            for lot in draw.sample(lots, min(20, len(lots))) + covers_by_hand(stock)[:3]:
                self.assertIs(is_hit(other, lot), len(things_by_hand(stock, lot)) == stock[0], (stock, lot))
                self.assertIs(is_hit(other, lot), is_cover(stock, lot), (stock, lot))

    def test_more_than_ten_offers(self):
        for stock in drawn_full(225) + drawn_full(226):
            if len(stock[1]) > 10:
                self.assert_refused(NoStock, turned, stock)
        self.assert_refused(NoStock, turned, (1, (((0,), 1),) * 11))
        self.assert_refused(NoStock, turned, (1, (((0,), 1),) * 12))

    def test_stocks_that_are_not_full(self):
        stocks = LACKING_STOCKS + NO_OFFERS + drawn_lacking(227) + [(2, (((1,), 1),) * 11), (2, (((0,), 1),) * 12)]
        for stock in stocks:
            self.assert_refused(NotFull, turned, stock)


if __name__ == "__main__":
    unittest.main()
