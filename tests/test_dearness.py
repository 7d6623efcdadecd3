"""Cheapest covers with an offer and without it, other prices, and reaches (points 91, 92 and 93)."""

import random
import unittest

from cheapcovers.cheapest import cheapest_cover
from cheapcovers.dearness import cheapest_with, cheapest_without, in_all, in_some, priced, reach_of
from cheapcovers.errors import NoNumber, NoOffer, NotFull
from cheapcovers.stocks import is_full, is_stock, needed
from tests.checks import Checks
from tests.plain import cheapest_by_hand, ordered_by_hand, price_by_hand
from tests.samples import (
    FULL_STOCKS, LACKING_STOCKS, drawn_again, drawn_full, drawn_lacking, other_kinds, small_stocks,
)

OF_AN_OFFER = (cheapest_with, cheapest_without, reach_of)
NO_PRICES = [0, -1, -(10 ** 39), True, False, None, "", "1", "5", (), (1,), (1, 1), [], [5], {}, {5: 5}]


def small_full():
    stocks = [stock for stock in small_stocks(4) if is_full(stock)]
    return stocks + [(many, tuple((things, len(things)) for things, price in offers)) for many, offers in stocks]


def no_offers(stock):
    count = len(stock[1])
    return [count, count + 1, -1, -count, 10 ** 39, -(10 ** 39), True, False, "", "0", None, (), (0,), [], [0], {}]


def repriced(stock, number, price):
    offers = list(stock[1])
    offers[number] = (offers[number][0], price)
    return (stock[0], tuple(offers))


def reach_by_hand(stock, number):
    prices = {True: [], False: []}
    for cover in ordered_by_hand(stock):
        prices[number in cover].append(price_by_hand(stock, [other for other in cover if other != number]))
    return min(prices[False]) - min(prices[True]) if prices[False] else None


class WithAndWithout(Checks):
    def check_stock(self, stock):
        covers = ordered_by_hand(stock)
        for number in range(len(stock[1])):
            having = [cover for cover in covers if number in cover]
            lacking = [cover for cover in covers if number not in cover]
            self.assert_told(having[0], cheapest_with, stock, number)
            self.assert_told(lacking[0] if lacking else None, cheapest_without, stock, number)
            self.assert_told(reach_by_hand(stock, number), reach_of, stock, number)
            self.assertEqual(lacking == [], number in needed(stock))
        self.assertIn(cheapest_cover(stock), [cheapest_with(stock, number) for number in range(len(stock[1]))])

    def test_told_values(self):
        stock = (3, (((0, 1), 5), ((1,), 2), ((2,), 12), ((0,), 4)))
        self.assert_told((0, 2), cheapest_with, stock, 0)
        self.assert_told((1, 2, 3), cheapest_with, stock, 1)
        self.assert_told((0, 2), cheapest_with, stock, 2)
        self.assert_told((1, 2, 3), cheapest_with, stock, 3)
        self.assert_told((1, 2, 3), cheapest_without, stock, 0)
        self.assert_told((0, 2), cheapest_without, stock, 1)
        self.assert_told(None, cheapest_without, stock, 2)
        for number, reach in enumerate((6, 1, None, 3)):
            self.assert_told(reach, reach_of, stock, number)

    def test_of_several_the_first_one(self):
        stock = (2, (((0,), 1), ((0, 1), 2), ((1,), 1), ((0, 1), 2)))
        self.assert_told((0, 2), cheapest_with, stock, 0)
        self.assert_told((1,), cheapest_without, stock, 0)
        self.assert_told((0, 2), cheapest_without, stock, 1)
        self.assert_told((3,), cheapest_with, stock, 3)

    def test_a_reach_of_nought(self):
        stock = (2, (((0, 1), 5), ((0,), 3)))
        self.assert_told(0, reach_of, stock, 1)
        self.assert_told(None, reach_of, stock, 0)

    def test_small_and_sample_stocks(self):
        for stock in FULL_STOCKS[:5] + FULL_STOCKS[6:] + small_full():
            self.check_stock(stock)

    def test_drawn_stocks(self):
        for stock in drawn_full(601) + drawn_again(602):
            self.check_stock(stock)

    def test_twelve_alike(self):
        for number in (0, 1, 11):
            self.assert_told((number,), cheapest_with, FULL_STOCKS[5], number)
            self.assert_told((0,) if number else (1,), cheapest_without, FULL_STOCKS[5], number)
            self.assert_told(10 ** 39, reach_of, FULL_STOCKS[5], number)

    def test_what_is_no_offer_full_or_not(self):
        for stock in FULL_STOCKS + LACKING_STOCKS + drawn_full(603)[::11] + drawn_lacking(604)[::11]:
            for told in OF_AN_OFFER:
                for offer in no_offers(stock):
                    if type(offer) is not int or not 0 <= offer < len(stock[1]):
                        self.assert_refused(NoOffer, told, stock, offer)

    def test_things_of_other_kinds(self):
        for stock in FULL_STOCKS[2:3] + LACKING_STOCKS[4:5]:
            for told in OF_AN_OFFER:
                for offer in other_kinds():
                    if type(offer) is not int or not 0 <= offer < len(stock[1]):
                        self.assert_refused(NoOffer, told, stock, offer)

    def test_stocks_that_are_not_full(self):
        for stock in LACKING_STOCKS + drawn_lacking(605):
            for number in range(len(stock[1])):
                for told in OF_AN_OFFER:
                    self.assert_refused(NotFull, told, stock, number)


class Priced(Checks):
    def test_told_values(self):
        stock = (3, (((0, 1), 5), ((1,), 2), ((2,), 12)))
        self.assert_told((3, (((0, 1), 5), ((1,), 7), ((2,), 12))), priced, stock, 1, 7)
        self.assert_told((3, (((0, 1), 1), ((1,), 2), ((2,), 12))), priced, stock, 0, 1)
        self.assert_told((3, (((0, 1), 5), ((1,), 2), ((2,), 10 ** 39))), priced, stock, 2, 10 ** 39)
        self.assert_told(stock, priced, stock, 0, 5)

    def test_each_offer_of_drawn_stocks_full_or_not(self):
        for stock in drawn_full(611) + drawn_lacking(612) + FULL_STOCKS + LACKING_STOCKS:
            for number in range(len(stock[1])):
                for price in (1, 2, 10 ** 39, 10 ** 40 - 1):
                    other = self.assert_told(repriced(stock, number, price), priced, stock, number, price)
                    self.assertIs(is_stock(other), True)

    def test_what_is_no_price(self):
        for stock in FULL_STOCKS + LACKING_STOCKS[2:]:
            for price in NO_PRICES:
                self.assert_refused(NoNumber, priced, stock, 0, price)
                self.assert_refused(NoNumber, priced, stock, len(stock[1]) - 1, price)
        for price in other_kinds():
            if type(price) is not int or price < 1:
                self.assert_refused(NoNumber, priced, FULL_STOCKS[2], 1, price)

    def test_what_is_no_offer_goes_ahead_of_what_is_no_price(self):
        for stock in FULL_STOCKS[:4] + LACKING_STOCKS:
            for offer in no_offers(stock):
                if type(offer) is not int or not 0 <= offer < len(stock[1]):
                    for price in NO_PRICES + [1, 5]:
                        self.assert_refused(NoOffer, priced, stock, offer, price)
        for offer in other_kinds():
            if type(offer) is not int or not 0 <= offer < 3:
                self.assert_refused(NoOffer, priced, FULL_STOCKS[2], offer, 0)


class InSomeAndAll(Checks):
    def check_stock(self, stock):
        covers = cheapest_by_hand(stock)
        numbers = range(len(stock[1]))
        self.assert_told([number for number in numbers if any(number in cover for cover in covers)], in_some, stock)
        self.assert_told([number for number in numbers if all(number in cover for cover in covers)], in_all, stock)

    def test_told_values(self):
        stock = (3, (((0, 1), 5), ((1,), 2), ((2,), 12), ((0,), 3)))
        self.assert_told([0, 1, 2, 3], in_some, stock)
        self.assert_told([2], in_all, stock)
        self.assert_told([0, 2], in_some, priced(stock, 0, 4))
        self.assert_told([0, 2], in_all, priced(stock, 0, 4))
        self.assert_told([1, 2, 3], in_all, priced(stock, 0, 6))
        self.assert_told(list(range(12)), in_some, FULL_STOCKS[5])
        self.assert_told([], in_all, FULL_STOCKS[5])

    def test_small_and_sample_stocks(self):
        for stock in FULL_STOCKS + small_full():
            self.check_stock(stock)

    def test_drawn_stocks(self):
        for stock in drawn_full(621) + drawn_again(622):
            self.check_stock(stock)

    def test_a_price_at_the_reach_one_less_and_one_more(self):
        draw = random.Random(1)
        for stock in small_full()[::3] + drawn_full(623)[::2] + drawn_again(624)[::2]:
            number = draw.randrange(len(stock[1]))
            reach = reach_of(stock, number)
            if reach is None:
                continue
            for price in {1, reach - 1, reach, reach + 1, reach + 10 ** 9}:
                if price >= 1:
                    other = priced(stock, number, price)
                    covers = cheapest_by_hand(other)
                    self.assertEqual(any(number in cover for cover in covers), price <= reach)
                    self.assertEqual(all(number in cover for cover in covers), price < reach)
                    self.assertEqual(number in in_some(other), price <= reach, (other, number))
                    self.assertEqual(number in in_all(other), price < reach, (other, number))
                    self.assert_told(reach, reach_of, other, number)

    def test_needed_offers_are_in_all(self):
        for stock in drawn_full(625):
            self.assertLessEqual(set(needed(stock)), set(in_all(stock)))

    def test_stocks_that_are_not_full(self):
        for stock in LACKING_STOCKS + drawn_lacking(626):
            self.assert_refused(NotFull, in_some, stock)
            self.assert_refused(NotFull, in_all, stock)

    def test_told_lists_are_the_askers_own(self):
        for stock in FULL_STOCKS:
            self.assert_own_list(in_some, stock)
            self.assert_own_list(in_all, stock)


if __name__ == "__main__":
    unittest.main()
