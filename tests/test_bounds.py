"""1 + 1/2 + .. together, and what things bear by bargains, lessened by it (points 7 and 33)."""

import math
import unittest
from fractions import Fraction

from cheapcovers.bargains import bargain_cover
from cheapcovers.bounds import lessened, steps_together
from cheapcovers.errors import NoNumber, NotFull
from cheapcovers.shares import is_bearing, worth_of
from tests.checks import Checks
from tests.plain import as_pair, covers_by_hand, is_bearing_by_hand, ordered_by_hand, price_by_hand, way_by_hand
from tests.samples import FULL_STOCKS, LACKING_STOCKS, drawn_full, drawn_lacking, other_kinds, small_stocks


def steps_by_hand(many):
    bottom = math.lcm(*range(1, 101))
    top = sum(bottom // step for step in range(1, many + 1))
    return Fraction(top, bottom)


def lessened_by_hand(stock):
    borne = {}
    for number, things, each in way_by_hand(stock):
        for thing in things:
            borne[thing] = each
    times = steps_by_hand(max(len(things) for things, price in stock[1]))
    return tuple(as_pair(borne[thing] / times) for thing in range(stock[0]))


class Steps(Checks):
    def test_told_values(self):
        for many, right in ((0, (0, 1)), (1, (1, 1)), (2, (3, 2)), (3, (11, 6)), (4, (25, 12)), (6, (49, 20)),
                            (10, (7381, 2520))):
            self.assert_told(right, steps_together, many)

    def test_nought_to_hundred(self):
        for many in range(101):
            self.assert_told(as_pair(steps_by_hand(many)), steps_together, many)

    def test_what_is_no_such_number(self):
        for many in (-1, -100, 101, 102, 1000, 10 ** 39, -(10 ** 39), True, False, "", "1", "10", None, (1, 1), (1,),
                     [], [1], {}, {1: 1}):
            self.assert_refused(NoNumber, steps_together, many)
        for many in other_kinds():
            if not (type(many) is int and 0 <= many <= 100):
                self.assert_refused(NoNumber, steps_together, many)


class Lessened(Checks):
    def check_stock(self, stock):
        told = self.assert_told(lessened_by_hand(stock), lessened, stock)
        self.assertTrue(is_bearing_by_hand(stock, told), stock)
        self.assertIs(is_bearing(stock, told), True, stock)
        times = steps_by_hand(max(len(things) for things, price in stock[1]))
        paid = price_by_hand(stock, bargain_cover(stock))
        self.assertEqual(Fraction(*worth_of(stock, told)) * times, paid)
        self.assertLessEqual(paid, times * price_by_hand(stock, ordered_by_hand(stock)[0]))

    def test_told_values(self):
        stock = (3, (((0,), 2), ((1,), 3), ((2,), 6), ((0, 1, 2), 7)))
        self.assert_told(((12, 11), (18, 11), (36, 11)), lessened, stock)
        self.assert_told(((9, 1),), lessened, (1, (((0,), 9),)))
        self.assert_told(((1, 1), (1, 1)), lessened, (2, (((0, 1), 3),)))

    def test_small_and_sample_stocks(self):
        for stock in FULL_STOCKS + small_stocks(4):
            if covers_by_hand(stock):
                self.check_stock(stock)

    def test_drawn_stocks(self):
        for stock in drawn_full(91) + drawn_full(92):
            self.check_stock(stock)

    def test_the_dearest_way_of_bargains(self):
        steps = math.lcm(*range(1, 11))
        offers = tuple(((thing,), steps // (10 - thing)) for thing in range(10))
        stock = (10, offers + ((tuple(range(10)), steps + 1),))
        self.assertEqual(bargain_cover(stock), tuple(range(10)))
        self.check_stock(stock)

    def test_stocks_that_are_not_full(self):
        for stock in LACKING_STOCKS + drawn_lacking(93):
            self.assert_refused(NotFull, lessened, stock)


if __name__ == "__main__":
    unittest.main()
