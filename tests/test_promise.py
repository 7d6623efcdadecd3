"""The whole interface, and what point 7 says of the whole program, by what the program tells."""

import copy
import importlib
import inspect
import random
import unittest
from fractions import Fraction

from cheapcovers.apart import are_apart, most_apart
from cheapcovers.balance import balanced
from cheapcovers.bargains import bargain_cover, bargain_way
from cheapcovers.bounds import lessened, steps_together
from cheapcovers.cases import case_paper, paper_shows
from cheapcovers.cheapest import cheapest_cover
from cheapcovers.covers import all_thin, is_cover, is_thin, thinned
from cheapcovers.dearness import cheapest_with, cheapest_without, in_all, in_some, priced, reach_of
from cheapcovers.desk import Desk
from cheapcovers.hits import fewest_hit, is_hit, turned
from cheapcovers.keeper import Keeper
from cheapcovers.leaving import led_back, lesser_stock, ruled_offers, ruled_things, sweeps
from cheapcovers.numbering import cover_at, many_covers, many_upto, next_cover, number_of
from cheapcovers.rows import in_row, makes_row, row_cover
from cheapcovers.shares import is_bearing, is_sharing, shared_price, worth_of
from cheapcovers.stocks import is_full, needed, price_of, things_of
from cheapcovers.texts import fraction_text, lot_read, lot_text, stock_read, stock_text
from tests.plain import covers_by_hand, lots_of, price_by_hand
from tests.samples import FULL_STOCKS, drawn_again, drawn_full, drawn_row

INTERFACE = {
    "stocks": {"is_stock": "thing", "is_full": "stock", "things_of": "stock lot", "price_of": "stock lot",
               "needed": "stock"},
    "covers": {"is_cover": "stock thing", "is_thin": "stock cover", "thinned": "stock cover", "all_thin": "stock"},
    "cheapest": {"cheapest_cover": "stock"},
    "numbering": {"many_covers": "stock", "many_upto": "stock price", "cover_at": "stock number",
                  "number_of": "stock cover", "next_cover": "stock cover"},
    "bargains": {"bargain_of": "stock offer lot", "best_bargain": "stock lot", "bargain_way": "stock",
                 "bargain_cover": "stock"},
    "bounds": {"steps_together": "many", "lessened": "stock"},
    "shares": {"is_bearing": "stock thing", "is_sharing": "stock thing", "worth_of": "stock bearing",
               "shared_price": "stock sharing"},
    "balance": {"balanced": "stock"},
    "cases": {"paper_shows": "stock least thing", "case_paper": "stock"},
    "hits": {"is_hit": "stock thing", "fewest_hit": "stock", "turned": "stock"},
    "apart": {"are_apart": "stock thing", "most_apart": "stock"},
    "leaving": {"ruled_offers": "stock", "ruled_things": "stock", "lesser_stock": "stock", "sweeps": "stock",
                "led_back": "stock lot"},
    "rows": {"in_row": "stock", "makes_row": "stock thing", "laid": "stock order", "row_cover": "stock"},
    "dearness": {"cheapest_with": "stock offer", "cheapest_without": "stock offer", "priced": "stock offer price",
                 "reach_of": "stock offer", "in_some": "stock", "in_all": "stock"},
    "texts": {"stock_text": "stock", "lot_text": "lot", "fraction_text": "fraction", "stock_read": "text",
              "lot_read": "text"},
    "keeper": {"Keeper": "stock"},
    "desk": {"Desk": ""},
}
METHODS = {
    Keeper: {"come": "thing", "undo": "", "came": "", "taken": "", "bears": "", "paid": "", "least_kept": ""},
    Desk: {"say": "row"},
}


def names_of(told):
    return " ".join(inspect.signature(told).parameters)


def sample_stocks():
    return FULL_STOCKS + drawn_full(1001)[::3] + drawn_again(1002)[::3]


class Interface(unittest.TestCase):
    def test_each_function_is_there_with_its_arguments(self):
        for name, told in INTERFACE.items():
            module = importlib.import_module("cheapcovers." + name)
            for function, arguments in told.items():
                with self.subTest(name, function=function):
                    self.assertEqual(names_of(getattr(module, function)), arguments)
                    self.assertEqual(getattr(module, function).__module__, "cheapcovers." + name)

    def test_each_method_is_there_with_its_arguments(self):
        for kind, told in METHODS.items():
            for method, arguments in told.items():
                with self.subTest(kind.__name__, method=method):
                    self.assertEqual(names_of(getattr(kind, method)), ("self " + arguments).strip())


class Promise(unittest.TestCase):
    def test_what_things_bear_is_never_more_than_a_cover_costs(self):
        for stock in sample_stocks():
            least = Fraction(min(price_by_hand(stock, cover) for cover in covers_by_hand(stock)))
            keeper = Keeper(stock)
            for thing in range(stock[0]):
                keeper.come(thing)
            for bearing in (balanced(stock)[0], lessened(stock), keeper.bears()):
                self.assertIs(is_bearing(stock, bearing), True)
                self.assertLessEqual(Fraction(*worth_of(stock, bearing)), least)

    def test_the_most_that_is_borne_is_the_least_price_of_shares(self):
        for stock in sample_stocks():
            bearing, sharing = balanced(stock)
            self.assertIs(is_bearing(stock, bearing), True)
            self.assertIs(is_sharing(stock, sharing), True)
            self.assertEqual(worth_of(stock, bearing), shared_price(stock, sharing))

    def test_each_cover_is_a_sharing(self):
        for stock in sample_stocks():
            for cover in (cheapest_cover(stock), bargain_cover(stock)):
                sharing = tuple((int(number in cover), 1) for number in range(len(stock[1])))
                self.assertIs(is_sharing(stock, sharing), True)
                self.assertEqual(shared_price(stock, sharing), (price_of(stock, cover), 1))

    def test_the_cover_by_bargains_costs_at_most_so_many_times_the_cheapest(self):
        for stock in sample_stocks():
            times = Fraction(*steps_together(max(len(things) for things, price in stock[1])))
            cover = bargain_cover(stock)
            self.assertIs(is_cover(stock, cover), True)
            self.assertLessEqual(price_of(stock, cover), times * price_of(stock, cheapest_cover(stock)))
            self.assertEqual(times * Fraction(*worth_of(stock, lessened(stock))), price_of(stock, cover))

    def test_a_paper_shows_just_what_no_cover_undercuts(self):
        for stock in sample_stocks():
            least = price_of(stock, cheapest_cover(stock))
            paper = case_paper(stock)
            self.assertIs(paper_shows(stock, (least, 1), paper), True)
            self.assertIs(paper_shows(stock, (least + 1, 1), paper), False)
            self.assertIs(paper_shows(stock, (2 * least + 1, 2), paper), False)
            self.assertEqual(many_upto(stock, least - 1), 0)
            self.assertGreater(many_upto(stock, least), 0)
            self.assertEqual(cover_at(stock, 0), cheapest_cover(stock))

    def test_hits_are_at_least_as_many_as_offers_apart(self):
        for stock in sample_stocks():
            hit = fewest_hit(stock)
            lot = most_apart(stock)
            self.assertIs(is_hit(stock, hit), True)
            self.assertIs(are_apart(stock, lot), True)
            self.assertGreaterEqual(len(hit), len(lot))

    def test_the_fewest_hit_is_the_cheapest_cover_of_the_turned_stock(self):
        for stock in drawn_full(1003, 10)[::3]:
            other = turned(stock)
            self.assertEqual(price_of(other, cheapest_cover(other)), len(fewest_hit(stock)))

    def test_whatever_is_left_out_beforehand_the_cheapest_price_stays(self):
        for stock in sample_stocks():
            left = lesser_stock(stock)[0]
            cover = cheapest_cover(left)
            self.assertEqual(price_of(left, cover), price_of(stock, cheapest_cover(stock)))
            self.assertEqual(price_of(stock, led_back(stock, cover)), price_of(left, cover))
            self.assertIs(is_cover(stock, led_back(stock, cover)), True)

    def test_in_a_row_the_most_that_is_borne_is_the_cheapest_price(self):
        for stock in drawn_row(1004)[::2]:
            cover, bearing = row_cover(stock)
            self.assertIs(is_cover(stock, cover), True)
            self.assertIs(is_bearing(stock, bearing), True)
            self.assertEqual(worth_of(stock, bearing), (price_of(stock, cover), 1))
            self.assertEqual(worth_of(stock, balanced(stock)[0]), (price_of(stock, cover), 1))
            self.assertEqual(cover, cheapest_cover(stock))
            self.assertIs(makes_row(stock, tuple(range(stock[0]))), True)

    def test_kept_covers_are_not_dearer_than_so_many_times_what_is_borne(self):
        draw = random.Random(1)
        for stock in sample_stocks():
            keeper = Keeper(stock)
            for thing in draw.sample(range(stock[0]), stock[0]):
                keeper.come(thing)
            most = max(sum(1 for things, price in stock[1] if thing in things) for thing in range(stock[0]))
            self.assertIs(is_cover(stock, keeper.taken()), True)
            self.assertIs(is_cover(stock, keeper.least_kept()), True)
            self.assertLessEqual(keeper.paid(), most * Fraction(*worth_of(stock, keeper.bears())))
            self.assertLessEqual(price_of(stock, keeper.least_kept()), keeper.paid())

    def test_a_price_at_the_reach_keeps_an_offer_in_some_cheapest_cover(self):
        for stock in sample_stocks()[::2]:
            for number in range(len(stock[1])):
                reach = reach_of(stock, number)
                self.assertEqual(reach is None, number in needed(stock))
                if reach:
                    at_reach = priced(stock, number, reach)
                    self.assertEqual((number in in_some(at_reach), number in in_all(at_reach)), (True, False))

    def test_what_is_told_is_read_again(self):
        for stock in sample_stocks():
            self.assertEqual(stock_read(stock_text(stock)), stock)
            for lot in (cheapest_cover(stock), fewest_hit(stock), ()):
                self.assertEqual(lot_read(lot_text(lot)), lot)
            desk = Desk()
            desk.say(f"things {stock[0]}")
            for things, price in stock[1]:
                desk.say("offer " + ",".join(map(str, things)) + f" {price}")
            self.assertEqual(desk.say("stock"), stock_text(stock))
            self.assertEqual(desk.say("bears"), fraction_text(worth_of(stock, balanced(stock)[0])))


class ToldAgain(unittest.TestCase):
    """Point 4 over the whole program: told again alike, whatever else was asked, and whatever was done to it."""

    OF_STOCKS = (
        is_full, needed, all_thin, cheapest_cover, many_covers, bargain_way, bargain_cover, lessened, balanced,
        case_paper, fewest_hit, most_apart, ruled_offers, ruled_things, lesser_stock, sweeps, in_row, in_some, in_all,
        stock_text,
    )
    OF_COVERS = (things_of, price_of, is_cover, is_thin, thinned, number_of, next_cover)

    def test_in_whatever_order_they_are_asked(self):
        draw = random.Random(2)
        stocks = FULL_STOCKS[:5] + drawn_full(1005)[::12]
        asked = [(told, (stock,)) for stock in stocks for told in self.OF_STOCKS]
        for stock in stocks:
            cover = draw.choice([lot for lot in lots_of(stock) if is_cover(stock, lot)])
            asked += [(told, (stock, cover)) for told in self.OF_COVERS]
            asked += [(told, (stock, cover[0])) for told in (cheapest_with, cheapest_without, reach_of)]
        first = [copy.deepcopy(told(*things)) for told, things in asked]
        order = list(range(len(asked)))
        draw.shuffle(order)
        for place in order:
            told, things = asked[place]
            answer = told(*things)
            self.assertEqual(answer, first[place], (told.__name__, things))
            if isinstance(answer, list):
                answer.append(None)
                answer.reverse()


if __name__ == "__main__":
    unittest.main()
