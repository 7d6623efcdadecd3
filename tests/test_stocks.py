"""Whole numbers, stocks, lots and needed offers (points 2 to 6 and 11)."""

import copy
import unittest

from cheapcovers.errors import NoCover, NotFull
from cheapcovers.stocks import is_full, is_stock, needed, price_of, things_of
from tests.plain import lots_of, needed_by_hand, price_by_hand, subsets, things_by_hand
from tests.samples import FULL_STOCKS, LACKING_STOCKS, other_kinds, small_stocks

ALL_THINGS = tuple(range(10))


class IsStock(unittest.TestCase):
    def assert_stock(self, thing):
        self.assertIs(is_stock(thing), True, repr(thing)[:200])

    def assert_no_stock(self, thing):
        before = copy.deepcopy(thing)
        self.assertIs(is_stock(thing), False, repr(thing)[:200])
        self.assertEqual(thing, before)

    def assert_no_offer(self, offer):
        """The offer spoils a stock at whatever place it stands."""
        good = ((0, 1), 5)
        for offers in ((offer,), (offer, good), (good, offer), (good, offer, good), (good,) * 11 + (offer,)):
            self.assert_no_stock((3, offers))

    def test_sample_stocks(self):
        for stock in FULL_STOCKS + LACKING_STOCKS + small_stocks(3):
            self.assert_stock(stock)

    def test_one_to_ten_things_and_none_to_twelve_offers(self):
        for many in range(1, 11):
            for count in range(13):
                self.assert_stock((many, tuple(((number % many,), number + 1) for number in range(count))))
                self.assert_stock((many, ((tuple(range(many)), 1),) * count))

    def test_each_set_of_things_makes_an_offer(self):
        for things in subsets(ALL_THINGS):
            if things:
                self.assert_stock((10, ((things, 1),)))

    def test_prices_of_one_figure_to_forty(self):
        for figures in range(1, 41):
            self.assert_stock((1, (((0,), 10 ** (figures - 1)),)))
            self.assert_stock((1, (((0,), 10 ** figures - 1),)))

    def test_other_counts_of_things(self):
        for many in (0, -1, 11, 12, 10 ** 39, -(10 ** 39), True, False, "1", "3", "", None, (1,), [1], {1: 1}, ()):
            self.assert_no_stock((many, ()))
            self.assert_no_stock((many, (((0,), 1),)))

    def test_an_offer_without_things(self):
        self.assert_no_offer(((), 5))

    def test_an_offer_with_a_thing_twice(self):
        for things in ((0, 0), (1, 1), (0, 1, 1), (0, 0, 2), (0, 1, 2, 2)):
            self.assert_no_offer((things, 5))

    def test_an_offer_with_things_turned_about(self):
        for things in ((1, 0), (2, 1, 0), (0, 2, 1), (1, 0, 2)):
            self.assert_no_offer((things, 5))

    def test_an_offer_with_a_thing_beyond_or_below(self):
        for things in ((3,), (0, 3), (0, 1, 2, 3), (10 ** 39,), (-1,), (-1, 0), (-2, -1), (-(10 ** 39), 1)):
            self.assert_no_offer((things, 5))

    def test_a_thing_is_beyond_from_as_many_on(self):
        for many in range(1, 11):
            self.assert_stock((many, (((many - 1,), 1),)))
            self.assert_no_stock((many, (((many,), 1),)))

    def test_an_offer_with_things_of_other_kinds(self):
        for things in ((False,), (True,), (0, True), (False, 1), (0, True, 2), ("0",), (None,), ([0],), ((0,),),
                       (0, "1"), (0, None), (0, [1]), (0, (1,)), ({},), ({}, [])):
            self.assert_no_offer((things, 5))

    def test_an_offer_with_its_things_in_no_tuple(self):
        for things in ([0], [0, 1], [], 0, 1, True, None, "0", "01", {0: 1}, {}):
            self.assert_no_offer((things, 5))

    def test_an_offer_with_another_price(self):
        for price in (0, -1, -(10 ** 39), True, False, (1, 2), (5, 1), 0.5, 5.0, "5", "", None, [5], (5,), {5: 5}, ()):
            self.assert_no_offer(((0, 1), price))

    def test_an_offer_that_is_no_pair(self):
        for offer in ((), ((0, 1),), ((0, 1), 5, 5), ((0, 1), 5, None), [(0, 1), 5], [[0, 1], 5], {(0, 1): 5},
                      None, True, 0, 5, "", "05", (5, (0, 1)), {0: (0, 1), 1: 5}):
            self.assert_no_offer(offer)

    def test_more_than_twelve_offers(self):
        for count in (13, 14, 100, 2000):
            self.assert_no_stock((10, (((0,), 1),) * count))

    def test_offers_in_no_tuple(self):
        for offers in ([], [((0,), 1)], [((0,), 1), ((1,), 1)], {}, {0: ((0,), 1)}, {((0,), 1): 1}, "", "0", None,
                       True, False, 0, 1):
            self.assert_no_stock((3, offers))

    def test_shorter_and_longer_tuples(self):
        offers = (((0, 1), 5),)
        for thing in ((), (3,), (offers,), (3, offers, ()), (3, offers, None), (3, offers, offers), (3, 3, offers),
                      (offers, 3), offers, [3, offers], {3: offers}, {0: 3, 1: offers}, ((3, offers),)):
            self.assert_no_stock(thing)

    def test_things_of_other_kinds(self):
        for thing in other_kinds():
            self.assert_no_stock(thing)

    def test_things_of_other_kinds_within(self):
        for thing in other_kinds():
            self.assert_no_stock((3, (thing,)))
            self.assert_no_stock((thing, thing))
            if thing not in (1, 3) or isinstance(thing, bool):
                self.assert_no_stock((thing, ()))
            if thing not in (1, 3, 10 ** 39) or isinstance(thing, bool):
                self.assert_no_stock((3, (((0, 1), thing),)))
            if thing != (0,):
                self.assert_no_stock((3, ((thing, 5),)))


class IsFull(unittest.TestCase):
    def test_full_stocks(self):
        for stock in FULL_STOCKS:
            self.assertIs(is_full(stock), True, stock)

    def test_stocks_that_lack_a_thing(self):
        for stock in LACKING_STOCKS:
            self.assertIs(is_full(stock), False, stock)

    def test_stocks_without_offers(self):
        for many in range(1, 11):
            self.assertIs(is_full((many, ())), False)

    def test_one_lacking_thing_at_each_place(self):
        for many in range(1, 11):
            offers = tuple(((thing,), 1) for thing in range(many))
            self.assertIs(is_full((many, offers)), True)
            for lacking in range(many):
                self.assertIs(is_full((many, offers[:lacking] + offers[lacking + 1:])), False)

    def test_all_small_stocks(self):
        for stock in small_stocks(4):
            had = things_by_hand(stock, range(len(stock[1])))
            self.assertIs(is_full(stock), len(had) == stock[0], stock)


class Lots(unittest.TestCase):
    def check_all_lots(self, stock):
        for lot in lots_of(stock):
            things = things_of(stock, lot)
            self.assertIs(type(things), tuple)
            self.assertEqual(things, things_by_hand(stock, lot), (stock, lot))
            price = price_of(stock, lot)
            self.assertIs(type(price), int)
            self.assertEqual(price, price_by_hand(stock, lot), (stock, lot))

    def assert_no_lot(self, stock, thing):
        before = copy.deepcopy(thing)
        for told in (things_of, price_of):
            with self.assertRaises(NoCover, msg=repr(thing)[:200]) as caught:
                told(stock, thing)
            self.assertIs(type(caught.exception), NoCover)
        self.assertEqual(thing, before)

    def test_all_lots_of_sample_stocks(self):
        for stock in FULL_STOCKS + LACKING_STOCKS:
            self.check_all_lots(stock)

    def test_all_lots_of_small_stocks(self):
        for stock in small_stocks(3):
            self.check_all_lots(stock)

    def test_told_values(self):
        stock = (5, (((3, 4), 5), ((0, 3), 2), ((1,), 12), ((0, 3), 2)))
        self.assertEqual(things_of(stock, ()), ())
        self.assertEqual(price_of(stock, ()), 0)
        self.assertEqual(things_of(stock, (0, 1)), (0, 3, 4))
        self.assertEqual(price_of(stock, (0, 1)), 7)
        self.assertEqual(things_of(stock, (1, 3)), (0, 3))
        self.assertEqual(price_of(stock, (1, 3)), 4)
        self.assertEqual(things_of(stock, (0, 1, 2, 3)), (0, 1, 3, 4))
        self.assertEqual(price_of(stock, (0, 1, 2, 3)), 21)

    def test_great_prices(self):
        great = 10 ** 40 - 1
        stock = (1, (((0,), great),) * 12)
        self.assertEqual(price_of(stock, tuple(range(12))), 12 * great)
        self.assertEqual(things_of(stock, tuple(range(12))), (0,))

    def test_what_is_no_lot(self):
        stock = (3, (((0, 1), 5), ((1,), 2), ((2,), 12)))
        for thing in ((3,), (0, 3), (0, 1, 2, 3), (10 ** 39,), (-1,), (-1, 0), (-3,), (-(10 ** 39), 0), (True,),
                      (False,), (0, True), (False, 1), (0, True, 2), (None,), (0, None), None, True, False, 0, 1,
                      (0, 0), (1, 1), (0, 1, 1), (0, 0, 1), (1, 0), (2, 1, 0), (0, 2, 1), [], [0], [0, 1], "", "0",
                      "0 1", "none", {}, {0: 1}, ("0",), (0, "1"), ((0,),), (0, (1,)), ([],), (0, []), ({},),
                      (0, {}), ((),), stock, stock[1], stock[1][0]):
            self.assert_no_lot(stock, thing)

    def test_what_is_no_lot_of_whatever_kind(self):
        stock = (3, (((0, 1), 5), ((2,), 2)))
        for thing in other_kinds():
            self.assert_no_lot(stock, thing)
            self.assert_no_lot(stock, (0, thing, thing))

    def test_a_number_is_beyond_from_as_many_as_offers_on(self):
        for stock in FULL_STOCKS + LACKING_STOCKS:
            many = len(stock[1])
            self.assert_no_lot(stock, (many,))
            self.assert_no_lot(stock, tuple(range(many + 1)))
            self.assert_no_lot(stock, (-1,))

    def test_things_are_told_of_stocks_that_are_not_full(self):
        self.assertEqual(things_of((3, (((1,), 4),)), (0,)), (1,))
        self.assertEqual(price_of((3, (((1,), 4),)), (0,)), 4)
        self.assertEqual(things_of((3, ()), ()), ())
        self.assertEqual(price_of((3, ()), ()), 0)


class Needed(unittest.TestCase):
    def test_none_some_and_all(self):
        self.assertEqual(needed((1, (((0,), 1), ((0,), 1)))), [])
        self.assertEqual(needed((4, (((0, 1), 3), ((1, 2), 3), ((2, 3), 3), ((0, 3), 3)))), [])
        self.assertEqual(needed((3, (((0, 1), 5), ((1,), 2), ((2,), 12)))), [0, 2])
        self.assertEqual(needed((3, (((1,), 2), ((0, 1, 2), 90), ((1, 2), 1)))), [1])
        self.assertEqual(needed((1, (((0,), 1),))), [0])
        self.assertEqual(needed((10, tuple(((9 - place,), 1) for place in range(10)))), list(range(10)))

    def test_full_stocks(self):
        for stock in FULL_STOCKS + [stock for stock in small_stocks(4) if is_full(stock)]:
            told = needed(stock)
            self.assertIs(type(told), list)
            self.assertEqual(told, needed_by_hand(stock), stock)

    def test_a_stock_that_is_not_full(self):
        for stock in LACKING_STOCKS + [stock for stock in small_stocks(3) if not is_full(stock)]:
            with self.assertRaises(NotFull, msg=stock) as caught:
                needed(stock)
            self.assertIs(type(caught.exception), NotFull)

    def test_a_told_list_is_the_askers_own(self):
        for stock in FULL_STOCKS:
            right = needed_by_hand(stock)
            told = needed(stock)
            other = needed(stock)
            told.append(99)
            told.reverse()
            self.assertEqual(other, right)
            self.assertEqual(needed(stock), right)
            other.clear()
            self.assertEqual(needed(stock), right)


class NothingIsChanged(unittest.TestCase):
    def answers(self, stock, lot):
        told = [is_stock(stock), is_full(stock), things_of(stock, lot), price_of(stock, lot)]
        try:
            told.append(needed(stock))
        except NotFull:
            told.append("not full")
        return told

    def test_the_same_asked_again_has_the_same_answer(self):
        stocks = FULL_STOCKS + LACKING_STOCKS
        lots = [tuple(range(0, len(stock[1]), 2)) for stock in stocks]
        before = copy.deepcopy(stocks)
        first = [self.answers(stock, lot) for stock, lot in zip(stocks, lots)]
        for thing in other_kinds():
            is_stock(thing)
            with self.assertRaises(NoCover):
                things_of(stocks[0], (thing, thing))
        again = [self.answers(stock, lot) for stock, lot in zip(stocks, lots)]
        self.assertEqual(again, first)
        self.assertEqual(stocks, before)

    def test_a_list_changed_after_it_was_refused(self):
        offers = [((0,), 1)]
        self.assertIs(is_stock((1, offers)), False)
        offers.append(((0,), 1))
        self.assertIs(is_stock((1, offers)), False)
        self.assertIs(is_stock((1, tuple(offers))), True)


if __name__ == "__main__":
    unittest.main()
