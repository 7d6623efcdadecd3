"""Bearings and sharings (points 2, 7, 41 and 42)."""

import random
import unittest
from fractions import Fraction

from cheapcovers.errors import NoPaper
from cheapcovers.shares import is_bearing, is_sharing, shared_price, worth_of
from tests.checks import Checks
from tests.plain import (
    as_pair, covers_by_hand, is_bearing_by_hand, is_sharing_by_hand, price_by_hand, shared_price_by_hand,
)
from tests.samples import (
    FULL_STOCKS, LACKING_STOCKS, NO_FRACTIONS, drawn_full, drawn_lacking, other_kinds, small_stocks,
)

TINY = Fraction(1, 10 ** 39)


def drawn_shares(draw, count):
    sorts = (lambda: 0, lambda: 1, lambda: draw.randint(1, 9), lambda: Fraction(draw.randint(0, 9), draw.randint(1, 9)),
             lambda: Fraction(draw.randint(0, 10 ** 18), draw.randint(1, 10 ** 18)))
    return [Fraction(draw.choice(sorts)()) for place in range(count)]


def as_tuple(shares):
    return tuple(as_pair(Fraction(share)) for share in shares)


def just_borne(draw, stock):
    """Shares of which an offer's things bear just its price, and a thing of that offer; None where all bear 0."""
    shares = drawn_shares(draw, stock[0])
    bounds = [(Fraction(price) / sum(shares[thing] for thing in things), things) for things, price in stock[1]
              if any(shares[thing] for thing in things)]
    if not bounds:
        return None
    times, things = min(bounds)
    had = {thing for offer in stock[1] for thing in offer[0]}
    return [share * times if thing in had else share for thing, share in enumerate(shares)], draw.choice(things)


def just_shared(draw, stock):
    """Shares of which the offers of a thing have just 1 together, and one of these offers whose share is above 0."""
    shares = [share + Fraction(1, 7) for share in drawn_shares(draw, len(stock[1]))]
    sums = []
    for thing in range(stock[0]):
        having = [number for number, (things, price) in enumerate(stock[1]) if thing in things]
        sums.append((sum(shares[number] for number in having), having))
    least, having = min(sums)
    return [share / least for share in shares], draw.choice(having)


def otherwise(shares):
    """The tuple of shares with one thing otherwise: none any more."""
    things = [list(shares), {place: share for place, share in enumerate(shares)}, str(shares), (shares,), shares[:-1],
              shares[1:] if shares else None, shares + ((0, 1),), shares + ((1, 1),), shares + (None,), shares + (0,)]
    for place in range(len(shares)):
        for other in NO_FRACTIONS + [(-1, 1), (-1, 2), (-(10 ** 39), 1), shares[place][0], list(shares[place])]:
            things.append(shares[:place] + (other,) + shares[place + 1:])
    return things


class Bearings(Checks):
    def assert_bearing(self, stock, thing):
        self.assertTrue(is_bearing_by_hand(stock, thing))
        self.assert_told(True, is_bearing, stock, thing)
        worth = sum(Fraction(*share) for share in thing)
        self.assert_told(as_pair(Fraction(worth)), worth_of, stock, thing)
        return worth

    def assert_no_bearing(self, stock, thing):
        self.assertFalse(is_bearing_by_hand(stock, thing))
        self.assert_told(False, is_bearing, stock, thing)
        self.assert_refused(NoPaper, worth_of, stock, thing)

    def test_told_values(self):
        stock = (3, (((0, 1), 5), ((1, 2), 2), ((2,), 12)))
        self.assert_bearing(stock, ((0, 1), (0, 1), (0, 1)))
        self.assert_bearing(stock, ((5, 1), (0, 1), (2, 1)))
        self.assert_bearing(stock, ((9, 2), (1, 2), (3, 2)))
        self.assert_told((13, 2), worth_of, stock, ((9, 2), (1, 2), (3, 2)))
        self.assert_told((0, 1), worth_of, stock, ((0, 1), (0, 1), (0, 1)))
        self.assert_told((7, 1), worth_of, stock, ((5, 1), (0, 1), (2, 1)))
        self.assert_no_bearing(stock, ((9, 2), (1, 2), (5, 3)))
        self.assert_no_bearing(stock, ((9, 2), (2, 3), (0, 1)))
        self.assert_no_bearing(stock, ((0, 1), (0, 1), (3, 1)))

    def test_just_at_the_bound_and_beyond_it(self):
        draw = random.Random(6)
        for stock in FULL_STOCKS + small_stocks(3) + drawn_full(101) + drawn_lacking(102):
            found = just_borne(draw, stock)
            if found is not None:
                shares, thing = found
                self.assert_bearing(stock, as_tuple(shares))
                shares[thing] += TINY
                self.assert_no_bearing(stock, as_tuple(shares))

    def test_no_bearing_is_worth_more_than_a_cover_costs(self):
        draw = random.Random(7)
        for stock in FULL_STOCKS + drawn_full(103)[::2]:
            least = min(price_by_hand(stock, cover) for cover in covers_by_hand(stock))
            found = just_borne(draw, stock)
            if found is not None:
                self.assertLessEqual(self.assert_bearing(stock, as_tuple(found[0])), least)

    def test_a_thing_that_no_offer_has_bears_however_much(self):
        self.assert_bearing((2, (((0,), 3),)), ((3, 1), (10 ** 39, 7)))
        self.assert_no_bearing((2, (((0,), 3),)), ((22, 7), (10 ** 39, 7)))
        self.assert_bearing((1, ()), ((10 ** 39, 1),))
        self.assert_bearing((3, ()), ((10 ** 39, 1), (1, 2), (1, 3)))

    def test_one_thing_otherwise(self):
        for stock in FULL_STOCKS + LACKING_STOCKS:
            for shares in (((0, 1),) * stock[0], ((1, 20),) * stock[0]):
                self.assert_bearing(stock, shares)
                for thing in otherwise(shares):
                    self.assert_no_bearing(stock, thing)

    def test_things_of_other_kinds(self):
        for stock in FULL_STOCKS[:4] + LACKING_STOCKS[:3]:
            for thing in other_kinds():
                if repr(thing) != repr(((0, 1),) * stock[0]):
                    self.assert_no_bearing(stock, thing)
                if repr(thing) != repr((0, 1)):
                    self.assert_no_bearing(stock, (thing,) * stock[0])
                    self.assert_no_bearing(stock, ((0, 1),) * (stock[0] - 1) + (thing,))


class Sharings(Checks):
    def assert_sharing(self, stock, thing):
        self.assertTrue(is_sharing_by_hand(stock, thing))
        self.assert_told(True, is_sharing, stock, thing)
        price = shared_price_by_hand(stock, thing)
        self.assert_told(as_pair(Fraction(price)), shared_price, stock, thing)
        return price

    def assert_no_sharing(self, stock, thing):
        self.assertFalse(is_sharing_by_hand(stock, thing))
        self.assert_told(False, is_sharing, stock, thing)
        self.assert_refused(NoPaper, shared_price, stock, thing)

    def test_told_values(self):
        stock = (3, (((0, 1), 5), ((1, 2), 3), ((0, 2), 4)))
        self.assert_sharing(stock, ((1, 2), (1, 2), (1, 2)))
        self.assert_told((6, 1), shared_price, stock, ((1, 2), (1, 2), (1, 2)))
        self.assert_told((19, 3), shared_price, stock, ((1, 3), (2, 3), (2, 3)))
        self.assert_told((12, 1), shared_price, stock, ((1, 1), (1, 1), (1, 1)))
        self.assert_sharing(stock, ((7, 1), (0, 1), (1, 1)))
        self.assert_no_sharing(stock, ((1, 2), (1, 2), (1, 3)))
        self.assert_no_sharing(stock, ((9, 1), (0, 1), (0, 1)))
        self.assert_no_sharing(stock, ((0, 1), (0, 1), (0, 1)))

    def test_just_at_the_bound_and_below_it(self):
        draw = random.Random(8)
        full = [stock for stock in small_stocks(3) if covers_by_hand(stock)]
        for stock in FULL_STOCKS + full + drawn_full(111):
            shares, number = just_shared(draw, stock)
            price = self.assert_sharing(stock, as_tuple(shares))
            bearing = just_borne(draw, stock)
            if bearing is not None:
                self.assertLessEqual(sum(bearing[0]), price)
            shares[number] -= TINY
            self.assert_no_sharing(stock, as_tuple(shares))

    def test_each_cover_is_a_sharing_of_whole_shares(self):
        for stock in FULL_STOCKS[:5] + drawn_full(112, 6)[::4]:
            for cover in covers_by_hand(stock):
                sharing = tuple((1, 1) if number in cover else (0, 1) for number in range(len(stock[1])))
                self.assert_sharing(stock, sharing)
                self.assert_told((price_by_hand(stock, cover), 1), shared_price, stock, sharing)

    def test_no_sharing_where_a_thing_is_lacking(self):
        for stock in LACKING_STOCKS + drawn_lacking(113):
            for share in ((0, 1), (1, 1), (10 ** 39, 1)):
                self.assert_no_sharing(stock, (share,) * len(stock[1]))

    def test_one_thing_otherwise(self):
        for stock in FULL_STOCKS:
            for shares in (((1, 1),) * len(stock[1]), ((7, 2),) * len(stock[1])):
                self.assert_sharing(stock, shares)
                for thing in otherwise(shares):
                    self.assert_no_sharing(stock, thing)

    def test_things_of_other_kinds(self):
        for stock in FULL_STOCKS[:4] + LACKING_STOCKS[:3]:
            count = len(stock[1])
            for thing in other_kinds():
                self.assert_no_sharing(stock, thing)
                self.assert_no_sharing(stock, (thing,) * count)
                if repr(thing) != repr((0, 1)):
                    self.assert_no_sharing(stock, ((1, 1),) * (count - 1) + (thing,))


if __name__ == "__main__":
    unittest.main()
