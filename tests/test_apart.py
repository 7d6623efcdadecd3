"""Lots of offers apart, and the most offers apart (points 62 and 7)."""

import random
import unittest

from cheapcovers.apart import are_apart, most_apart
from cheapcovers.hits import fewest_hit, is_hit
from tests.checks import Checks
from tests.plain import are_apart_by_hand, lots_of, most_apart_by_hand
from tests.samples import (
    FULL_STOCKS, LACKING_STOCKS, drawn_again, drawn_full, drawn_lacking, other_kinds, small_stocks, spoilt,
)


class AreApart(Checks):
    def test_told_values(self):
        stock = (3, (((0, 1), 5), ((1,), 2), ((2,), 12)))
        for lot in ((), (0,), (1,), (2,), (0, 2), (1, 2)):
            self.assert_told(True, are_apart, stock, lot)
        for thing in ((0, 1), (0, 1, 2), (2, 0), (0, 0), (0, 3), (-1,), (True, 2), [0, 2], None, "0 2", (0, (2,))):
            self.assert_told(False, are_apart, stock, thing)

    def test_two_alike_are_not_apart(self):
        self.assert_told(False, are_apart, (1, (((0,), 1), ((0,), 1))), (0, 1))
        self.assert_told(False, are_apart, (3, (((0,), 1), ((1, 2), 1), ((0,), 2))), (0, 1, 2))

    def test_all_lots_of_small_and_sample_stocks(self):
        for stock in small_stocks(4) + FULL_STOCKS[:5] + LACKING_STOCKS:
            for lot in lots_of(stock):
                self.assert_told(are_apart_by_hand(stock, lot), are_apart, stock, lot)

    def test_drawn_lots_of_drawn_stocks(self):
        draw = random.Random(1)
        for stock in drawn_full(301) + drawn_lacking(302) + drawn_again(303):
            count = len(stock[1])
            for turn in range(12):
                lot = tuple(sorted(draw.sample(range(count), min(count, draw.randint(0, 4)))))
                self.assert_told(are_apart_by_hand(stock, lot), are_apart, stock, lot)
            self.assert_told(True, are_apart, stock, ())
            everything = tuple(range(count))
            self.assert_told(are_apart_by_hand(stock, everything), are_apart, stock, everything)

    def test_a_lot_apart_with_one_thing_otherwise(self):
        for stock in FULL_STOCKS + LACKING_STOCKS + drawn_full(304)[::7]:
            lot = most_apart_by_hand(stock)
            for thing in spoilt(lot, len(stock[1])):
                self.assert_told(are_apart_by_hand(stock, thing), are_apart, stock, thing)
            self.assert_told(False, are_apart, stock, list(lot))
            for place in range(len(lot)):
                for thing in (lot[:place] + lot[place + 1:], lot[place:] + lot[:place]):
                    self.assert_told(are_apart_by_hand(stock, thing), are_apart, stock, thing)

    def test_things_of_other_kinds(self):
        for stock in FULL_STOCKS + LACKING_STOCKS:
            for thing in other_kinds():
                self.assert_told(are_apart_by_hand(stock, thing), are_apart, stock, thing)


class MostApart(Checks):
    def test_told_values(self):
        self.assert_told((0, 2), most_apart, (3, (((0, 1), 5), ((1,), 2), ((2,), 12))))
        self.assert_told((0, 2), most_apart, (4, (((0, 1), 3), ((1, 2), 3), ((2, 3), 3), ((0, 3), 3))))
        self.assert_told((0,), most_apart, (10, ((tuple(range(10)), 10 ** 39),) * 12))
        self.assert_told(tuple(range(10)), most_apart, FULL_STOCKS[4])
        self.assert_told((1, 2), most_apart, (2, (((0, 1), 1), ((0,), 9), ((1,), 9), ((0,), 1))))

    def test_more_offers_go_ahead_of_lesser_numbers(self):
        self.assert_told((1, 2, 3), most_apart, (3, (((0, 1, 2), 1), ((0,), 1), ((1,), 1), ((2,), 1))))
        self.assert_told((1, 3, 4), most_apart, (4, (((0, 1), 1), ((0,), 1), ((1, 2), 1), ((1,), 1), ((2, 3), 1))))

    def test_of_no_offers(self):
        for many in range(1, 11):
            self.assert_told((), most_apart, (many, ()))

    def test_small_and_sample_stocks(self):
        for stock in small_stocks(4) + FULL_STOCKS + LACKING_STOCKS:
            self.assert_told(most_apart_by_hand(stock), most_apart, stock)

    def test_drawn_stocks(self):
        for stock in drawn_full(311) + drawn_lacking(312) + drawn_again(313):
            lot = self.assert_told(most_apart_by_hand(stock), most_apart, stock)
            self.assertIs(are_apart(stock, lot), True)

    def test_a_hit_has_at_least_as_many_things(self):
        for stock in drawn_full(314) + drawn_lacking(315) + drawn_again(316):
            hit = fewest_hit(stock)
            self.assertIs(is_hit(stock, hit), True)
            self.assertGreaterEqual(len(hit), len(most_apart(stock)), stock)


if __name__ == "__main__":
    unittest.main()
