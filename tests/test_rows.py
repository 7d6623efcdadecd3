"""Stocks in a row, orders, laid stocks, and the cheapest cover of a row (points 81, 82 and 7)."""

import random
import unittest
from itertools import permutations

from cheapcovers.balance import balanced
from cheapcovers.cheapest import cheapest_cover
from cheapcovers.errors import NoThing, NotFull, NotInRow
from cheapcovers.rows import in_row, laid, makes_row, row_cover
from cheapcovers.shares import is_bearing, worth_of
from cheapcovers.stocks import is_full, is_stock
from tests.checks import Checks
from tests.plain import (
    in_row_by_hand, is_bearing_by_hand, is_order_by_hand, laid_by_hand, makes_row_by_hand, ordered_by_hand,
    price_by_hand,
)
from tests.samples import (
    FULL_STOCKS, LACKING_STOCKS, drawn_again, drawn_full, drawn_lacking, drawn_row, other_kinds, small_stocks,
)


def mixed_row(draw, stock):
    """A stock that comes of one in a row when its things are numbered otherwise, and an order that undoes this."""
    order = list(range(stock[0]))
    draw.shuffle(order)
    mixed = (stock[0], tuple((tuple(sorted(order[thing] for thing in things)), price) for things, price in stock[1]))
    return mixed, tuple(order)


def spoilt_order(order):
    """The order of all things with one thing otherwise: no order any more."""
    many = len(order)
    things = [list(order), str(order), (order,), {number: True for number in order}, order + (many,), order + (0,),
              order + (-1,), order[:-1], order[1:], order * 2, ()]
    for place, number in enumerate(order):
        for other in (many, -1, number - many, many + number, number == 1, None, str(number), (number,), [number],
                      {}, order[place - 1] if many > 1 else many, 10 ** 39):
            things.append(order[:place] + (other,) + order[place + 1:])
        things.append(order[:place] + order[place + 1:])
        things.append(order[:place] + (number,) + order[place:])
    return things


class InRow(Checks):
    def test_told_values(self):
        self.assert_told(True, in_row, (3, (((0, 1), 5), ((1,), 2), ((2,), 12), ((0, 1, 2), 1), ((1, 2), 1))))
        self.assert_told(False, in_row, (3, (((0, 1), 5), ((0, 2), 2), ((2,), 12))))
        self.assert_told(False, in_row, (4, (((0, 1, 3), 5),)))
        self.assert_told(False, in_row, (5, (((1, 3, 4), 5),)))
        self.assert_told(True, in_row, (5, (((2, 3, 4), 5),)))
        self.assert_told(False, in_row, (10, (((0,), 1), (tuple(range(10)), 1), ((0, 9), 1))))

    def test_of_no_offers(self):
        for many in range(1, 11):
            self.assert_told(True, in_row, (many, ()))

    def test_small_and_sample_stocks(self):
        for stock in small_stocks(4) + FULL_STOCKS + LACKING_STOCKS:
            self.assert_told(in_row_by_hand(stock), in_row, stock)

    def test_drawn_stocks(self):
        for stock in drawn_full(501) + drawn_lacking(502) + drawn_again(503):
            self.assert_told(in_row_by_hand(stock), in_row, stock)
        for stock in drawn_row(504):
            self.assert_told(True, in_row, stock)


class MakesRow(Checks):
    def check_order(self, stock, order):
        self.assert_told(makes_row_by_hand(stock, order), makes_row, stock, order)
        other = self.assert_told(laid_by_hand(stock, order), laid, stock, order)
        self.assertIs(is_stock(other), True)
        self.assertIs(in_row(other), makes_row(stock, order), (stock, order))

    def check_no_order(self, stock, thing):
        self.assertFalse(is_order_by_hand(stock, thing))
        self.assert_told(False, makes_row, stock, thing)
        self.assert_refused(NoThing, laid, stock, thing)

    def test_told_values(self):
        stock = (3, (((0, 2), 5), ((1,), 2), ((1, 2), 12)))
        self.assert_told(True, makes_row, stock, (0, 2, 1))
        self.assert_told(True, makes_row, stock, (1, 2, 0))
        self.assert_told(False, makes_row, stock, (0, 1, 2))
        self.assert_told((3, (((0, 1), 5), ((2,), 2), ((1, 2), 12))), laid, stock, (0, 2, 1))
        self.assert_told((3, (((1, 2), 5), ((0,), 2), ((0, 1), 12))), laid, stock, (1, 2, 0))
        self.assert_told((3, (((0, 1), 5), ((2,), 2), ((0, 2), 12))), laid, stock, (2, 0, 1))
        self.assert_told(stock, laid, stock, (0, 1, 2))

    def test_things_stand_side_by_side_in_whatever_order(self):
        stock = (4, (((0, 1, 3), 1),))
        for order in permutations(range(4)):
            self.assert_told(order[0] == 2 or order[3] == 2, makes_row, stock, order)

    def test_all_orders_of_small_stocks(self):
        for stock in small_stocks(3):
            for order in permutations(range(stock[0])):
                self.check_order(stock, order)

    def test_drawn_orders(self):
        draw = random.Random(1)
        for stock in drawn_full(511) + drawn_lacking(512) + drawn_row(513) + [(many, ()) for many in range(1, 11)]:
            for turn in range(4):
                order = list(range(stock[0]))
                draw.shuffle(order)
                self.check_order(stock, tuple(order))
            self.check_order(stock, tuple(range(stock[0])))
            self.check_order(stock, tuple(range(stock[0]))[::-1])

    def test_the_order_that_lays_a_stock_in_a_row(self):
        draw = random.Random(2)
        for stock in drawn_row(514) + drawn_row(515):
            mixed, order = mixed_row(draw, stock)
            self.assert_told(True, makes_row, mixed, order)
            self.assert_told(True, makes_row, mixed, order[::-1])
            self.assert_told(stock, laid, mixed, order)

    def test_an_order_with_one_thing_otherwise(self):
        draw = random.Random(3)
        for stock in drawn_row(516)[::7] + FULL_STOCKS + LACKING_STOCKS:
            for order in (tuple(range(stock[0])), tuple(draw.sample(range(stock[0]), stock[0]))):
                for thing in spoilt_order(order):
                    self.check_no_order(stock, thing)

    def test_a_truth_in_the_place_of_a_number(self):
        self.check_no_order((2, (((0, 1), 1),)), (False, 1))
        self.check_no_order((2, (((0, 1), 1),)), (0, True))
        self.check_no_order((1, (((0,), 1),)), (False,))

    def test_things_of_other_kinds(self):
        for stock in FULL_STOCKS + LACKING_STOCKS:
            for thing in other_kinds():
                if is_order_by_hand(stock, thing):
                    self.check_order(stock, thing)
                else:
                    self.check_no_order(stock, thing)


class RowCover(Checks):
    def check_stock(self, stock):
        told = row_cover(stock)
        self.assertIs(type(told), tuple)
        cover, bearing = told
        right = ordered_by_hand(stock)[0]
        self.assert_told((right, bearing), row_cover, stock)
        self.assertTrue(is_bearing_by_hand(stock, bearing), stock)
        self.assertTrue(all(type(part) is tuple and part[1] == 1 for part in bearing), stock)
        price = price_by_hand(stock, right)
        self.assertEqual(sum(part[0] for part in bearing), price, stock)
        self.assertIs(is_bearing(stock, bearing), True)
        self.assertEqual(worth_of(stock, bearing), (price, 1))
        return price

    def test_told_values(self):
        self.assert_told(((0, 2), ((5, 1), (0, 1), (12, 1))), row_cover, (3, (((0, 1), 5), ((1,), 2), ((2,), 12))))
        self.assert_told(((0,), ((9, 1),)), row_cover, (1, (((0,), 9), ((0,), 9), ((0,), 10))))

    def test_of_several_the_first_one(self):
        stock = (2, (((0,), 1), ((0, 1), 2), ((1,), 1)))
        self.assertEqual(row_cover(stock)[0], (0, 2))
        stock = (2, (((1,), 1), ((0, 1), 2), ((0,), 1), ((0, 1), 2)))
        self.assertEqual(row_cover(stock)[0], (0, 2))
        stock = (2, (((0, 1), 2), ((0,), 1), ((1,), 1)))
        self.assertEqual(row_cover(stock)[0], (0,))

    def test_small_stocks(self):
        for stock in small_stocks(4):
            if in_row(stock) and is_full(stock):
                self.check_stock(stock)
                self.check_stock((stock[0], tuple((things, 2) for things, price in stock[1])))

    def test_drawn_stocks(self):
        for seed in range(521, 525):
            for stock in drawn_row(seed):
                self.check_stock(stock)

    def test_the_most_that_can_be_borne_is_the_cheapest_price(self):
        for stock in drawn_row(525):
            price = self.check_stock(stock)
            self.assertEqual(worth_of(stock, balanced(stock)[0]), (price, 1))
            self.assertEqual(row_cover(stock)[0], cheapest_cover(stock))

    def test_stocks_that_are_laid_in_a_row(self):
        draw = random.Random(4)
        for stock in drawn_row(526)[::3]:
            mixed, order = mixed_row(draw, stock)
            self.assertEqual(row_cover(laid(mixed, order))[0], cheapest_cover(mixed))

    def test_stocks_that_lie_in_no_row_full_or_not(self):
        seen = {True: 0, False: 0}
        for stock in drawn_full(527) + drawn_lacking(528) + drawn_again(529) + FULL_STOCKS + LACKING_STOCKS:
            if not in_row_by_hand(stock):
                self.assert_refused(NotInRow, row_cover, stock)
                seen[is_full(stock)] += 1
        self.assertGreater(min(seen.values()), 20)
        self.assert_refused(NotInRow, row_cover, (4, (((0, 2), 1),)))

    def test_stocks_in_a_row_that_lack_a_thing(self):
        for many in range(1, 11):
            self.assert_refused(NotFull, row_cover, (many, ()))
        seen = 0
        for stock in drawn_lacking(530) + drawn_lacking(531) + LACKING_STOCKS:
            if in_row_by_hand(stock):
                self.assert_refused(NotFull, row_cover, stock)
                seen = seen + 1
        for many, offers in drawn_row(532):
            fewer = (many, tuple(offer for offer in offers if many - 1 not in offer[0]))
            self.assert_refused(NotFull, row_cover, fewer)
        self.assertGreater(seen, 20)


if __name__ == "__main__":
    unittest.main()
