"""Papers of cases (points 7, 21, 51 and 52)."""

import random
import unittest
from fractions import Fraction

from cheapcovers.cases import case_paper, paper_shows
from cheapcovers.errors import NoNumber, NotFull
from tests.checks import Checks
from tests.plain import as_fraction, as_pair, covers_by_hand, ordered_by_hand, price_by_hand, shown_by_hand
from tests.samples import (
    FULL_STOCKS, LACKING_STOCKS, NO_FRACTIONS, drawn_full, drawn_lacking, filled, nested, other_kinds, small_stocks,
)

TINY = Fraction(1, 10 ** 39)
TRIANGLE = (3, (((0, 1), 1), ((1, 2), 1), ((0, 2), 1)))


def cheapest_by_hand(stock):
    return price_by_hand(stock, ordered_by_hand(stock)[0])


def drawn_leaf(draw, stock, taken, left_out):
    """A leaf that is right: just at the bound of some offer that is free, where a thing of one bears anything."""
    had = {thing for number in taken for thing in stock[1][number][0]}
    free = [offer for number, offer in enumerate(stock[1]) if number not in taken and number not in left_out]
    left = {thing for things, price in free for thing in things}
    shares = [Fraction(0 if thing in had else draw.randint(0, 4), draw.randint(1, 3)) for thing in range(stock[0])]
    bounds = [Fraction(price) / sum(shares[thing] for thing in things) for things, price in free
              if any(shares[thing] for thing in things)]
    for thing in range(stock[0]):
        if thing in left:
            shares[thing] *= min(bounds, default=0)
        elif thing not in had:
            shares[thing] *= draw.choice((1, 10 ** 38))
    return ("bear", tuple(as_pair(share) for share in shares))


def drawn_paper(draw, stock, deep, taken=frozenset(), left_out=frozenset()):
    free = [number for number in range(len(stock[1])) if number not in taken and number not in left_out]
    if deep == 0 or not free:
        return drawn_leaf(draw, stock, taken, left_out)
    number = draw.choice(free)
    return ("cases", number, drawn_paper(draw, stock, deep - draw.randint(1, deep), taken | {number}, left_out),
            drawn_paper(draw, stock, deep - 1, taken, left_out | {number}))


def places_of(paper):
    """The ways to all papers within: tuples of 2 and 3."""
    if paper[0] == "bear":
        return [()]
    return [()] + [(side,) + way for side in (2, 3) for way in places_of(paper[side])]


def part_at(paper, way):
    return paper if not way else part_at(paper[way[0]], way[1:])


def put_at(paper, way, part):
    if not way:
        return part
    return paper[:way[0]] + (put_at(paper[way[0]], way[1:], part),) + paper[way[0] + 1:]


def other_leaves(draw, leaf):
    shares = leaf[1]
    place = draw.randrange(len(shares))
    fraction = Fraction(*shares[place])
    for other in [as_pair(fraction + TINY), as_pair(fraction + 1), as_pair(fraction - TINY), as_pair(-fraction - 1),
                  draw.choice(NO_FRACTIONS), draw.choice(NO_FRACTIONS), list(shares[place])]:
        yield ("bear", shares[:place] + (other,) + shares[place + 1:])
    for other in (shares[1:], shares + ((0, 1),), list(shares), shares[::-1], None, True, shares[0], "bear", {}):
        yield ("bear", other)
    for word in ("cases", "Bear", "bear ", "", None, True, 0, ("bear",), ["bear"]):
        yield (word, shares)
    yield from [("bear",), ("bear", shares, shares), ["bear", shares], {"bear": shares}, shares, leaf[::-1]]


def other_cases(draw, stock, node):
    word, number, taking, leaving = node
    count = len(stock[1])
    for other in (draw.randrange(count), draw.randrange(count), count, -1, number - count, number == 1, True, False,
                  None, str(number), (number,), [number], {}, 10 ** 39):
        yield (word, other, taking, leaving)
    yield (word, number, leaving, taking)
    yield (word, number, taking, taking)
    yield (word, number, leaving, leaving)
    for part in (True, None, list(taking), [], (), nested("list", 25), nested("tuple", 25), node, "bear", 0):
        yield (word, number, part, leaving)
        yield (word, number, taking, part)
    for other in ("bear", "Cases", "", None, True, 0, ("cases",)):
        yield (other, number, taking, leaving)
    yield from [(word, number, taking), (word, taking, leaving), (word, number), node + (leaving,), list(node),
                {"cases": number}, taking, leaving, node[1:], node[::-1]]


def others_of(draw, stock, paper):
    way = draw.choice(places_of(paper))
    part = part_at(paper, way)
    changed = other_leaves(draw, part) if part[0] == "bear" else other_cases(draw, stock, part)
    return [put_at(paper, way, other) for other in changed]


class PaperShows(Checks):
    def assert_shown(self, stock, paper):
        """It shows as much as a plain look at it tells, and no more; False of all where this tells none."""
        shown = shown_by_hand(stock, paper)
        if shown is None:
            for least in ((0, 1), (-1, 1), (-(10 ** 39), 1), (1, 2)):
                self.assert_told(False, paper_shows, stock, least, paper)
        else:
            for more in (-1, -TINY, 0):
                self.assert_told(True, paper_shows, stock, as_pair(Fraction(shown + more)), paper)
            for more in (TINY, Fraction(1, 2), 1, 10 ** 39):
                self.assert_told(False, paper_shows, stock, as_pair(Fraction(shown + more)), paper)
        return shown

    def assert_no_paper(self, stock, paper):
        self.assertIsNone(self.assert_shown(stock, paper), repr(paper)[:300])

    def test_a_leaf_alone(self):
        stock = (3, (((0, 1), 5), ((1, 2), 2), ((2,), 12)))
        self.assertEqual(self.assert_shown(stock, ("bear", ((0, 1), (0, 1), (0, 1)))), 0)
        self.assertEqual(self.assert_shown(stock, ("bear", ((5, 1), (0, 1), (2, 1)))), 7)
        self.assertEqual(self.assert_shown(stock, ("bear", ((9, 2), (1, 2), (3, 2)))), Fraction(13, 2))
        self.assert_no_paper(stock, ("bear", ((11, 2), (0, 1), (2, 1))))
        self.assert_no_paper(stock, ("bear", ((5, 1), (0, 1), (2, 1), (0, 1))))

    def test_cases_show_more_than_a_bearing_can(self):
        half = ("bear", ((1, 2), (1, 2), (1, 2)))
        self.assertEqual(self.assert_shown(TRIANGLE, half), Fraction(3, 2))
        paper = ("cases", 0, ("bear", ((0, 1), (0, 1), (1, 1))), ("bear", ((1, 1), (1, 1), (0, 1))))
        self.assertEqual(self.assert_shown(TRIANGLE, paper), 2)
        self.assertEqual(self.assert_shown(TRIANGLE, ("cases", 0, paper[2], half)), Fraction(3, 2))
        self.assert_no_paper(TRIANGLE, ("cases", 0, paper[3], paper[2]))
        self.assert_no_paper(TRIANGLE, ("cases", 1) + paper[2:])

    def test_things_of_taken_offers_bear_nought(self):
        stock = (2, (((0,), 5), ((1,), 5)))
        nought = ("bear", ((0, 1), (0, 1)))
        paper = ("cases", 0, ("bear", ((0, 1), (5, 1))), ("bear", ((9, 1), (5, 1))))
        self.assertEqual(self.assert_shown(stock, paper), 10)
        self.assert_no_paper(stock, ("cases", 0, ("bear", ((1, 9), (0, 1))), nought))
        self.assert_no_paper(stock, ("cases", 0, ("bear", ((5, 1), (5, 1))), nought))
        self.assert_no_paper(stock, ("cases", 0, nought, ("bear", ((0, 1), (11, 2)))))

    def test_things_that_no_offer_that_is_left_has_bear_however_much(self):
        stock = (2, (((0, 1), 5), ((1,), 3)))
        much = (10 ** 39, 1)
        paper = ("cases", 0, ("bear", ((0, 1), (0, 1))), ("bear", (much, (3, 1))))
        self.assertEqual(self.assert_shown(stock, paper), 5)
        self.assert_no_paper(stock, ("cases", 0, ("bear", (much, (0, 1))), paper[3]))
        self.assert_no_paper(stock, ("cases", 0, paper[2], ("bear", (much, (4, 1)))))
        self.assert_no_paper(stock, ("cases", 1, ("bear", (much, (0, 1))), ("bear", ((0, 1), (0, 1)))))
        self.assertEqual(self.assert_shown((2, (((0,), 5),)), ("bear", ((5, 1), much))), 10 ** 39 + 5)
        self.assertEqual(self.assert_shown((1, ()), ("bear", (much,))), 10 ** 39)

    def test_an_offer_met_twice(self):
        nought = ("bear", ((0, 1), (0, 1), (0, 1)))
        for number in range(3):
            again = ("cases", number, nought, nought)
            self.assertEqual(self.assert_shown(TRIANGLE, again), 0)
            self.assert_no_paper(TRIANGLE, ("cases", number, again, nought))
            self.assert_no_paper(TRIANGLE, ("cases", number, nought, again))
            other = (number + 1) % 3
            self.assert_no_paper(TRIANGLE, ("cases", number, nought, ("cases", other, again, nought)))
            self.assert_no_paper(TRIANGLE, ("cases", number, ("cases", other, nought, again), nought))
            both = ("cases", other, nought, nought)
            self.assertEqual(self.assert_shown(TRIANGLE, ("cases", number, both, both)), 0)

    def test_drawn_papers_and_such_with_one_thing_otherwise(self):
        draw = random.Random(10)
        stocks = FULL_STOCKS + LACKING_STOCKS + drawn_full(131)[::3] + drawn_lacking(132)[::3] + small_stocks(3)[::5]
        for stock in stocks:
            for deep in (0, 1, draw.randint(2, 5)):
                paper = drawn_paper(draw, stock, deep)
                self.assertIsNotNone(self.assert_shown(stock, paper), (stock, paper))
                for other in others_of(draw, stock, paper):
                    self.assert_shown(stock, other)

    def test_no_right_paper_shows_more_than_a_cover_costs(self):
        draw = random.Random(11)
        for stock in FULL_STOCKS + drawn_full(133, 8)[::2]:
            least = cheapest_by_hand(stock)
            for deep in (0, 1, 2, 4):
                shown = self.assert_shown(stock, drawn_paper(draw, stock, deep))
                self.assertLessEqual(shown, least)

    def test_as_deep_as_there_are_offers_and_deeper(self):
        stock = (10, tuple(((thing % 10,), thing + 1) for thing in range(12)))
        nought = ("bear", ((0, 1),) * 10)
        paper = nought
        for number in range(12):
            paper = ("cases", number, nought, paper)
        self.assertEqual(self.assert_shown(stock, paper), 0)
        self.assertEqual(self.assert_shown(stock, put_at(paper, (3,) * 12, ("bear", ((10 ** 39, 1),) * 10))), 1)
        self.assert_no_paper(stock, put_at(paper, (3,) * 12, ("cases", 3, nought, nought)))
        for way in ((), (3,) * 5, (2,)):
            self.assert_no_paper(stock, put_at(paper, way, nested("tuple", 18)))
            self.assert_no_paper(stock, put_at(paper, way, nested("list", 18)))
        deeper = nought
        for step in range(28):
            deeper = ("cases", step % 12, deeper, nought)
        self.assert_no_paper(stock, deeper)

    def test_all_cases(self):
        stock = (10, tuple(((thing % 10,), 10 ** thing) for thing in range(12)))

        def whole(number, taken):
            if number == 12:
                had = {one % 10 for one in taken}
                return ("bear", tuple((0, 1) if thing in had else (10 ** 39, 1) for thing in range(10)))
            return ("cases", number, whole(number + 1, taken + (number,)), whole(number + 1, taken))

        paper = whole(0, ())
        self.assertIs(paper_shows(stock, (1111111111, 1), paper), True)
        self.assertIs(paper_shows(stock, (1111111112, 1), paper), False)

    def test_things_of_other_kinds(self):
        for stock in FULL_STOCKS[:4] + LACKING_STOCKS[:2]:
            for thing in other_kinds():
                self.assert_no_paper(stock, thing)
                self.assert_no_paper(stock, ("cases", thing, thing, thing))
                self.assert_no_paper(stock, ("cases", 0, thing, thing))
                self.assert_no_paper(stock, (thing, 0, thing, thing))
                self.assert_no_paper(stock, (thing, thing))
                self.assert_shown(stock, ("bear", thing))
                self.assert_shown(stock, ("bear", (thing,) * stock[0]))

    def test_what_is_no_fraction(self):
        paper = ("bear", ((0, 1),) * 3)
        for thing in (paper, None, [], ("bear", ())):
            for least in NO_FRACTIONS:
                self.assert_refused(NoNumber, paper_shows, TRIANGLE, least, thing)
                self.assert_refused(NoNumber, paper_shows, LACKING_STOCKS[0], least, thing)
            for least in other_kinds():
                if as_fraction(least) is None:
                    self.assert_refused(NoNumber, paper_shows, TRIANGLE, least, thing)

    def test_fractions_below_nought_are_shown(self):
        paper = ("bear", ((0, 1),) * 3)
        self.assert_told(True, paper_shows, TRIANGLE, (-1, 2), paper)
        self.assert_told(True, paper_shows, TRIANGLE, (-(10 ** 39), 1), paper)
        self.assert_told(False, paper_shows, TRIANGLE, (-1, 2), paper[:1])


class CasePaper(Checks):
    def check_stock(self, stock):
        paper = case_paper(stock)
        self.assert_told(paper, case_paper, stock)
        least = cheapest_by_hand(stock)
        self.assertEqual(shown_by_hand(stock, paper), least, stock)
        self.assert_told(True, paper_shows, stock, (least, 1), paper)
        self.assert_told(True, paper_shows, stock, as_pair(least - TINY), paper)
        self.assert_told(False, paper_shows, stock, as_pair(least + TINY), paper)
        self.assert_told(False, paper_shows, stock, (least + 1, 1), paper)
        return paper

    def test_where_a_bearing_is_not_enough(self):
        self.assertEqual(self.check_stock(TRIANGLE)[0], "cases")
        self.assertEqual(self.check_stock((3, TRIANGLE[1] + (((0, 1, 2), 2),)))[0], "cases")
        lines = ((0, 1, 2), (0, 3, 4), (0, 5, 6), (1, 3, 5), (1, 4, 6), (2, 3, 6), (2, 4, 5))
        self.assertEqual(self.check_stock((7, tuple((line, 1) for line in lines)))[0], "cases")
        ring = tuple((tuple(sorted((thing, (thing + 1) % 9))), 10 ** 39 + 1) for thing in range(9))
        self.assertEqual(self.check_stock((9, ring))[0], "cases")

    def test_small_and_sample_stocks(self):
        for stock in FULL_STOCKS + small_stocks(4):
            if covers_by_hand(stock):
                self.check_stock(stock)

    def test_small_stocks_whose_prices_are_alike(self):
        for many, offers in small_stocks(5):
            stock = (many, tuple((things, 1) for things, price in offers))
            if covers_by_hand(stock):
                self.check_stock(stock)

    def test_drawn_stocks(self):
        for seed in range(141, 144):
            for stock in drawn_full(seed):
                self.check_stock(stock)

    def test_many_offers_of_as_many_things(self):
        draw = random.Random(12)
        for size in (2, 3, 4, 5):
            for price in (lambda: 1, lambda: draw.randint(1, 3), lambda: draw.randint(10 ** 39, 10 ** 40 - 1)):
                for turn in range(8):
                    offers = tuple((tuple(sorted(draw.sample(range(10), size))), price()) for place in range(12))
                    self.check_stock(filled(draw, (10, offers)))

    def test_stocks_that_are_not_full(self):
        for stock in LACKING_STOCKS + drawn_lacking(144):
            self.assert_refused(NotFull, case_paper, stock)


if __name__ == "__main__":
    unittest.main()
