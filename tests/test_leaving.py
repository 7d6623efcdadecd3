"""What is ruled, the lesser stock, its sweeps and covers led back (points 71, 72, 73 and 7)."""

import random
import unittest
from itertools import permutations

from cheapcovers.cheapest import cheapest_cover
from cheapcovers.covers import is_cover
from cheapcovers.errors import NoCover, NotFull
from cheapcovers.leaving import led_back, lesser_stock, ruled_offers, ruled_things, sweeps
from cheapcovers.stocks import is_full, is_stock, price_of
from tests.checks import Checks
from tests.plain import (
    covers_by_hand, left_by_hand, lots_of, ordered_by_hand, price_by_hand, ruled_offers_by_hand,
    ruled_things_by_hand, sweeps_by_hand, things_by_hand,
)
from tests.samples import (
    FULL_STOCKS, LACKING_STOCKS, drawn_again, drawn_full, drawn_lacking, other_kinds, small_stocks, spoilt,
)

OF_A_STOCK = (ruled_offers, ruled_things, lesser_stock, sweeps)

# Sweep by sweep another offer and another thing become ruled.
LONG_WAY = (5, (((0, 1), 2), ((1, 2), 2), ((2, 3), 2), ((3, 4), 2), ((0,), 1), ((4,), 5)))
NOTHING_RULED = (4, (((0, 1), 3), ((1, 2), 3), ((2, 3), 3), ((0, 3), 3)))


def small_full(most_offers):
    return [stock for stock in small_stocks(most_offers) if is_full(stock)]


def small_prices(most_offers):
    """Small full stocks at prices that are often alike."""
    stocks = []
    for many, offers in small_full(most_offers):
        for prices in ((1, 1, 1, 1, 1), (2, 1, 2, 1, 2), (1, 2, 2, 1, 1), (3, 2, 1, 1, 1)):
            stocks.append((many, tuple((things, price) for (things, old), price in zip(offers, prices))))
    return stocks


class Ruled(Checks):
    def check_stock(self, stock):
        things = range(stock[0])
        offers = range(len(stock[1]))
        self.assert_told(ruled_offers_by_hand(stock, things, offers), ruled_offers, stock)
        self.assert_told(ruled_things_by_hand(stock, things, offers), ruled_things, stock)

    def test_told_values(self):
        stock = (3, (((0, 1), 5), ((1,), 2), ((2,), 12)))
        self.assert_told([], ruled_offers, stock)
        self.assert_told([(1, 0)], ruled_things, stock)
        self.assert_told([(1, 0)], ruled_offers, (3, (((0, 1), 5), ((1,), 5), ((2,), 12))))
        self.assert_told([(0, 1), (2, 1)], ruled_offers, (2, (((0,), 5), ((0, 1), 5), ((1,), 6))))
        self.assert_told([], ruled_offers, NOTHING_RULED)
        self.assert_told([], ruled_things, NOTHING_RULED)

    def test_of_two_that_rule_one_another_the_greater_is_ruled(self):
        self.assert_told([(1, 0)], ruled_offers, (1, (((0,), 3), ((0,), 3))))
        self.assert_told([(1, 0)], ruled_things, (2, (((0, 1), 3),)))
        self.assert_told([(2, 1)], ruled_things, (3, (((0,), 3), ((1, 2), 3))))

    def test_three_alike_are_ruled_by_the_least(self):
        self.assert_told([(1, 0), (2, 0)], ruled_offers, (1, (((0,), 3), ((0,), 3), ((0,), 3))))
        self.assert_told([(1, 0), (2, 0)], ruled_things, (3, (((0, 1, 2), 3),)))
        self.assert_told([(2, 1), (3, 1)], ruled_offers, (2, (((1,), 1), ((0,), 3), ((0,), 3), ((0,), 3))))

    def test_the_least_that_rules_may_be_ruled_itself(self):
        self.assert_told([(0, 1), (1, 2)], ruled_offers, (3, (((0,), 3), ((0, 1), 3), ((0, 1, 2), 3))))
        self.assert_told([(0, 1), (1, 2), (3, 1)], ruled_offers,
                         (2, (((0, 1), 5), ((0, 1), 4), ((0, 1), 1), ((1,), 4))))

    def test_of_the_same_things_the_dearer_is_ruled_whatever_its_number(self):
        self.assert_told([(0, 1)], ruled_offers, (1, (((0,), 4), ((0,), 3))))
        self.assert_told([(1, 0)], ruled_offers, (1, (((0,), 3), ((0,), 4))))

    def test_more_things_at_a_greater_price_rule_nothing(self):
        self.assert_told([], ruled_offers, (2, (((0,), 3), ((0, 1), 4))))

    def test_a_thing_is_ruled_by_one_that_fewer_offers_have(self):
        self.assert_told([(0, 1)], ruled_things, (2, (((0,), 3), ((0, 1), 4))))
        self.assert_told([(0, 1), (1, 2)], ruled_things, (3, (((0, 1, 2), 3), ((0,), 1), ((0, 1), 1))))

    def test_small_and_sample_stocks(self):
        for stock in FULL_STOCKS + small_full(4) + small_prices(4):
            self.check_stock(stock)

    def test_small_stocks_in_each_order_of_offers(self):
        for many, offers in small_prices(3):
            for order in permutations(offers):
                self.check_stock((many, order))

    def test_drawn_stocks(self):
        for seed in range(401, 405):
            for stock in drawn_full(seed) + drawn_again(seed):
                self.check_stock(stock)

    def test_told_lists_are_the_askers_own(self):
        for stock in FULL_STOCKS + drawn_again(405)[::5]:
            for told in (ruled_offers, ruled_things, sweeps):
                self.assert_own_list(told, stock)


class Sweeps(Checks):
    def check_stock(self, stock):
        found, things, offers = sweeps_by_hand(stock)
        left = left_by_hand(stock, things, offers)
        self.assert_told(found, sweeps, stock)
        self.assert_told((left, things, offers), lesser_stock, stock)
        self.assertIs(is_stock(left), True)
        self.assertIs(is_full(left), True)
        self.assert_told([], ruled_offers, left)
        self.assert_told([], ruled_things, left)
        self.assert_told([], sweeps, left)
        self.assert_told((left, tuple(range(left[0])), tuple(range(len(left[1])))), lesser_stock, left)
        return found

    def test_told_values(self):
        stock = (3, (((0, 1), 5), ((1,), 2), ((2,), 12)))
        self.assert_told(((2, (((0,), 5), ((1,), 12))), (0, 2), (0, 2)), lesser_stock, stock)
        self.assert_told([((1,), (1,))], sweeps, stock)
        stock = (2, (((0, 1), 3), ((0,), 3), ((1,), 1)))
        self.assert_told([((1,), (1,))], sweeps, (2, (((0, 1), 3), ((0,), 3))))
        self.assert_told([((1, 2), (1,))], sweeps, stock)
        self.assert_told(((1, (((0,), 3),)), (0,), (0,)), lesser_stock, stock)

    def test_ruled_offers_go_ahead_of_ruled_things(self):
        # Thing 1 is ruled only once offer 1, which has thing 0 without it, is left out.
        stock = (3, (((0, 1), 3), ((0,), 3), ((1, 2), 3), ((2,), 1)))
        self.assert_told([], ruled_things, stock)
        self.assert_told([((1,), (1,)), ((2,), ())], sweeps, stock)
        self.assert_told(((2, (((0,), 3), ((1,), 1))), (0, 2), (0, 3)), lesser_stock, stock)

    def test_things_that_are_left_out_make_offers_ruled_in_the_next_sweep(self):
        self.assertGreater(len(self.check_stock(LONG_WAY)), 1)
        stock = (3, (((0, 1), 2), ((1, 2), 1), ((0, 2), 5), ((1,), 1)))
        self.check_stock(stock)

    def test_nothing_is_ruled(self):
        self.assert_told([], sweeps, NOTHING_RULED)
        self.assert_told((NOTHING_RULED, (0, 1, 2, 3), (0, 1, 2, 3)), lesser_stock, NOTHING_RULED)

    def test_small_and_sample_stocks(self):
        for stock in FULL_STOCKS + small_full(4) + small_prices(4):
            self.check_stock(stock)

    def test_drawn_stocks_with_no_one_two_and_three_sweeps(self):
        counts = set()
        for seed in range(411, 416):
            for stock in drawn_full(seed) + drawn_again(seed):
                counts.add(len(self.check_stock(stock)))
        self.assertLessEqual({0, 1, 2, 3}, counts)

    def test_each_of_the_old_things_and_offers_stays_or_goes_once(self):
        for stock in drawn_full(416) + drawn_again(417):
            left, things, offers = lesser_stock(stock)
            swept = sweeps(stock)
            gone = [number for step in swept for number in step[0]]
            self.assertEqual(sorted(gone + list(offers)), list(range(len(stock[1]))))
            gone = [number for step in swept for number in step[1]]
            self.assertEqual(sorted(gone + list(things)), list(range(stock[0])))
            self.assertTrue(all(step != ((), ()) for step in swept))

    def test_the_cheapest_price_stays(self):
        for stock in drawn_full(418) + drawn_again(419) + small_prices(4):
            left = lesser_stock(stock)[0]
            least = price_by_hand(stock, ordered_by_hand(stock)[0])
            self.assertEqual(min(price_by_hand(left, cover) for cover in covers_by_hand(left)), least, stock)
            self.assertEqual(price_of(left, cheapest_cover(left)), least)

    def test_stocks_that_are_not_full(self):
        for stock in LACKING_STOCKS + drawn_lacking(420):
            for told in OF_A_STOCK:
                self.assert_refused(NotFull, told, stock)


class LedBack(Checks):
    def test_told_values(self):
        stock = (3, (((0, 1), 5), ((1,), 2), ((2,), 12)))
        self.assert_told((0, 2), led_back, stock, (0, 1))
        for thing in ((0, 2), (0,), (1,), (), (0, 1, 2), (1, 0), [0, 1], (False, True), (0, True), None, "0 1"):
            self.assert_refused(NoCover, led_back, stock, thing)

    def test_all_lots_of_old_stocks(self):
        for stock in small_full(4) + small_prices(3) + FULL_STOCKS[:5] + drawn_full(421, 6) + [LONG_WAY]:
            found, things, offers = sweeps_by_hand(stock)
            left = left_by_hand(stock, things, offers)
            covers = covers_by_hand(left)
            for lot in lots_of(stock):
                if lot in covers:
                    back = self.assert_told(tuple(offers[number] for number in lot), led_back, stock, lot)
                    self.assertEqual(len(things_by_hand(stock, back)), stock[0])
                    self.assertIs(is_cover(stock, back), True)
                    self.assertEqual(price_by_hand(stock, back), price_by_hand(left, lot))
                else:
                    self.assert_refused(NoCover, led_back, stock, lot)

    def test_covers_of_lesser_stocks_that_are_drawn(self):
        draw = random.Random(1)
        for stock in drawn_again(422) + drawn_full(423):
            left, things, offers = lesser_stock(stock)
            covers = covers_by_hand(left)
            for cover in {covers[0], covers[-1], draw.choice(covers)}:
                self.assert_told(tuple(offers[number] for number in cover), led_back, stock, cover)
            cheapest = led_back(stock, cheapest_cover(left))
            self.assertEqual(price_by_hand(stock, cheapest), price_by_hand(stock, ordered_by_hand(stock)[0]))

    def test_covers_of_the_old_stock_that_are_none_of_the_lesser(self):
        seen = 0
        for stock in drawn_again(424):
            left = lesser_stock(stock)[0]
            covers = set(covers_by_hand(left))
            for cover in [cover for cover in covers_by_hand(stock) if cover not in covers][:5]:
                self.assert_refused(NoCover, led_back, stock, cover)
                seen = seen + 1
        self.assertGreater(seen, 100)

    def test_a_cover_with_one_thing_otherwise(self):
        for stock in FULL_STOCKS + drawn_again(425)[::7]:
            left = lesser_stock(stock)[0]
            for thing in spoilt(covers_by_hand(left)[0], len(left[1])):
                self.assert_refused(NoCover, led_back, stock, thing)

    def test_things_of_other_kinds(self):
        for stock in FULL_STOCKS[2:] + LACKING_STOCKS[2:]:
            for thing in other_kinds() + [list(range(len(stock[1])))]:
                if stock in FULL_STOCKS or thing not in lots_of(stock):
                    self.assert_refused(NoCover, led_back, stock, thing)

    def test_lots_of_stocks_that_are_not_full(self):
        for stock in LACKING_STOCKS + drawn_lacking(426):
            count = len(stock[1])
            for lot in {(), tuple(range(count)), tuple(range(count))[:1], tuple(range(count))[1:]}:
                self.assert_refused(NotFull, led_back, stock, lot)
            self.assert_refused(NoCover, led_back, stock, (count,))
            self.assert_refused(NoCover, led_back, stock, tuple(range(count + 1)))
            self.assert_refused(NoCover, led_back, stock, list(range(count)))


if __name__ == "__main__":
    unittest.main()
