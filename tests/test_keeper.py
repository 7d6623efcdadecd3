"""Keepers: things that come, comings undone, and what is told of them (points 101, 102, 103 and 7)."""

import random
import unittest

from cheapcovers.errors import NoRow, NoStock, NoThing, NotFull
from cheapcovers.keeper import Keeper
from cheapcovers.shares import is_bearing, worth_of
from tests.checks import Checks
from tests.plain import is_bearing_by_hand, is_stock_by_hand, kept_by_hand, lots_of, price_by_hand, things_by_hand
from tests.samples import (
    FULL_STOCKS, LACKING_STOCKS, drawn_again, drawn_full, drawn_lacking, other_kinds, small_stocks, spoilt,
)

QUESTIONS = ("came", "taken", "bears", "paid", "least_kept")


def no_things(stock):
    return [stock[0], stock[0] + 1, -1, -stock[0], 10 ** 39, -(10 ** 39), True, False, None, "", "0", (), (0,), [],
            [0], {}, {0: 0}]


class KeeperChecks(Checks):
    def assert_kept(self, keeper, stock, comings):
        """All that the keeper tells is what a plain reckoning of rooms tells, asked again too."""
        right = kept_by_hand(stock, comings)
        for turn in range(2):
            for question in QUESTIONS:
                told = getattr(keeper, question)()
                self.assert_alike(told, right[question], (question, stock, comings))

    def come(self, keeper, thing):
        self.assertIsNone(keeper.come(thing))


class Comings(KeeperChecks):
    def test_told_values(self):
        stock = (3, (((0, 1), 5), ((1,), 2), ((2,), 12)))
        keeper = Keeper(stock)
        self.assert_kept(keeper, stock, [])
        self.come(keeper, 1)
        self.assertEqual(keeper.came(), [1])
        self.assertEqual(keeper.taken(), (1,))
        self.assertEqual(keeper.bears(), ((0, 1), (2, 1), (0, 1)))
        self.assertEqual(keeper.paid(), 2)
        self.assertEqual(keeper.least_kept(), (1,))
        self.come(keeper, 0)
        self.assertEqual(keeper.came(), [1, 0])
        self.assertEqual(keeper.taken(), (0, 1))
        self.assertEqual(keeper.bears(), ((3, 1), (2, 1), (0, 1)))
        self.assertEqual(keeper.paid(), 7)
        self.assertEqual(keeper.least_kept(), (0,))
        self.come(keeper, 1)
        self.come(keeper, 2)
        self.assertEqual(keeper.came(), [1, 0, 1, 2])
        self.assertEqual(keeper.bears(), ((3, 1), (2, 1), (12, 1)))
        self.assertEqual(keeper.least_kept(), (0, 2))
        self.assertIsNone(keeper.undo())
        self.assertIsNone(keeper.undo())
        self.assertEqual(keeper.came(), [1, 0])
        self.assertEqual(keeper.taken(), (0, 1))

    def test_at_first(self):
        for stock in FULL_STOCKS + LACKING_STOCKS:
            keeper = Keeper(stock)
            self.assertEqual(keeper.came(), [])
            self.assertEqual(keeper.taken(), ())
            self.assertEqual(keeper.bears(), ((0, 1),) * stock[0])
            self.assertEqual(keeper.paid(), 0)
            self.assertEqual(keeper.least_kept(), ())

    def test_of_several_of_the_least_room_the_least_number(self):
        keeper = Keeper((3, (((0, 1), 6), ((0, 2), 4), ((0,), 4), ((0,), 5))))
        self.come(keeper, 0)
        self.assertEqual(keeper.taken(), (1,))

    def test_a_thing_may_bear_nought(self):
        stock = (3, (((0, 1), 4), ((0, 2), 4)))
        keeper = Keeper(stock)
        self.come(keeper, 0)
        self.come(keeper, 2)
        self.assertEqual(keeper.taken(), (0, 1))
        self.assertEqual(keeper.bears(), ((4, 1), (0, 1), (0, 1)))
        self.assert_kept(keeper, stock, [0, 2])
        keeper.undo()
        self.assert_kept(keeper, stock, [0])

    def test_left_out_from_the_one_taken_last(self):
        # Taken are the offers of thing 0, of 0 and 2, of 2 and 3, in this order; of the first two either could go.
        offers = (((0,), 1), ((0, 2), 5), ((2, 3), 5), ((1,), 1))
        for stock in ((4, offers), (4, offers[:3][::-1])):
            keeper = Keeper(stock)
            for thing in (0, 2, 3):
                self.come(keeper, thing)
            self.assertEqual(keeper.taken(), (0, 1, 2))
            self.assertEqual(keeper.bears(), ((1, 1), (0, 1), (4, 1), (1, 1)))
            self.assertEqual(keeper.least_kept(), (0, 2))

    def test_rows_of_comings_and_back(self):
        draw = random.Random(1)
        for stock in small_stocks(3) + FULL_STOCKS + drawn_full(701) + drawn_again(702) + drawn_lacking(703):
            having = things_by_hand(stock, range(len(stock[1])))
            if not having:
                continue
            keeper = Keeper(stock)
            comings = []
            for turn in range(draw.randint(1, 14)):
                comings.append(draw.choice(having))
                self.come(keeper, comings[-1])
                self.assert_kept(keeper, stock, comings)
            for turn in range(len(comings)):
                self.assertIsNone(keeper.undo())
                comings.pop()
                self.assert_kept(keeper, stock, comings)
            self.assert_refused(NoRow, keeper.undo)
            self.assert_kept(keeper, stock, [])

    def test_comings_and_undoings_mixed(self):
        draw = random.Random(2)
        for stock in drawn_full(704) + drawn_again(705):
            keeper = Keeper(stock)
            comings = []
            for turn in range(20):
                if draw.random() < 0.4:
                    if comings:
                        keeper.undo()
                        comings.pop()
                    else:
                        self.assert_refused(NoRow, keeper.undo)
                else:
                    comings.append(draw.randrange(stock[0]))
                    keeper.come(comings[-1])
            self.assert_kept(keeper, stock, comings)

    def test_many_comings(self):
        stock = drawn_full(706)[-1]
        draw = random.Random(3)
        comings = [draw.randrange(10) for turn in range(2000)]
        keeper = Keeper(stock)
        for thing in comings:
            keeper.come(thing)
        self.assert_kept(keeper, stock, comings)
        for turn in range(1995):
            keeper.undo()
        self.assert_kept(keeper, stock, comings[:5])


class Refusals(KeeperChecks):
    def test_what_is_no_stock(self):
        for thing in other_kinds():
            if not is_stock_by_hand(thing):
                self.assert_refused(NoStock, Keeper, thing)
        for thing in ((0, ()), (11, ()), (True, ()), (1, []), [1, ()], (1, (((0,), 0),)), (1, (((1,), 1),)),
                      (2, (((1, 0), 1),)), (2, (([0, 1], 1),)), (1, (((0,), 1),) * 13), (1, (((0,), True),)),
                      (1, (((), 1),)), (1, (((0,), 1, 1),)), (1, ((0,), 1)), (1, (), ())):
            self.assert_refused(NoStock, Keeper, thing)

    def test_what_is_no_thing_changes_nothing(self):
        for stock in FULL_STOCKS + LACKING_STOCKS:
            having = list(things_by_hand(stock, range(len(stock[1]))))[:3]
            keeper = Keeper(stock)
            for comings in ([], having):
                for thing in comings:
                    keeper.come(thing)
                for thing in no_things(stock):
                    if type(thing) is not int or not 0 <= thing < stock[0]:
                        self.assert_refused(NoThing, keeper.come, thing)
                self.assert_kept(keeper, stock, comings)

    def test_things_of_other_kinds(self):
        for stock in (FULL_STOCKS[2], LACKING_STOCKS[4]):
            keeper = Keeper(stock)
            keeper.come(2)
            for thing in other_kinds() + spoilt((0, 2), 3):
                if type(thing) is not int or not 0 <= thing < stock[0]:
                    self.assert_refused(NoThing, keeper.come, thing)
            self.assert_kept(keeper, stock, [2])

    def test_things_that_no_offer_has_change_nothing(self):
        for stock in LACKING_STOCKS + drawn_lacking(711):
            having = things_by_hand(stock, range(len(stock[1])))
            keeper = Keeper(stock)
            comings = []
            for thing in range(stock[0]):
                if thing in having:
                    keeper.come(thing)
                    comings.append(thing)
                else:
                    self.assert_refused(NotFull, keeper.come, thing)
                    self.assert_refused(NotFull, keeper.come, thing)
                self.assert_kept(keeper, stock, comings)
            for thing in comings:
                keeper.undo()
            self.assert_refused(NoRow, keeper.undo)

    def test_nothing_to_undo(self):
        keeper = Keeper(FULL_STOCKS[2])
        self.assert_refused(NoRow, keeper.undo)
        self.assert_refused(NoRow, keeper.undo)
        keeper.come(0)
        keeper.undo()
        self.assert_refused(NoRow, keeper.undo)
        keeper.come(2)
        self.assert_kept(keeper, FULL_STOCKS[2], [2])


class Apart(KeeperChecks):
    def test_two_keepers_of_one_stock(self):
        draw = random.Random(4)
        for stock in FULL_STOCKS + drawn_full(721)[::5]:
            one, other = Keeper(stock), Keeper(stock)
            first = [draw.randrange(stock[0]) for turn in range(5)]
            second = [draw.randrange(stock[0]) for turn in range(4)]
            for turn in range(5):
                one.come(first[turn])
                if turn < 4:
                    other.come(second[turn])
                self.assert_kept(one, stock, first[:turn + 1])
                self.assert_kept(other, stock, second[:turn + 1])
            one.undo()
            self.assert_kept(one, stock, first[:4])
            self.assert_kept(other, stock, second)

    def test_a_told_list_is_the_askers_own(self):
        for stock in FULL_STOCKS:
            keeper = Keeper(stock)
            keeper.came().append(0)
            self.assert_kept(keeper, stock, [])
            keeper.come(0)
            told = keeper.came()
            told.append(0)
            told[0] = 99
            self.assert_kept(keeper, stock, [0])
            keeper.came().clear()
            keeper.undo()
            self.assert_refused(NoRow, keeper.undo)
            self.assertEqual(told, [99, 0])


class Promise(KeeperChecks):
    def check_promise(self, stock, comings):
        keeper = Keeper(stock)
        for thing in comings:
            keeper.come(thing)
        bearing = keeper.bears()
        self.assertTrue(is_bearing_by_hand(stock, bearing))
        self.assertIs(is_bearing(stock, bearing), True)
        borne = sum(top for top, bottom in bearing)
        self.assertEqual(worth_of(stock, bearing), (borne, 1))
        most = max(sum(1 for things, price in stock[1] if thing in things) for thing in comings)
        self.assertEqual(keeper.paid(), price_by_hand(stock, keeper.taken()))
        self.assertLessEqual(keeper.paid(), most * borne)
        for lot in (keeper.taken(), keeper.least_kept()):
            self.assertLessEqual(set(comings), set(things_by_hand(stock, lot)))
        self.assertLessEqual(set(keeper.least_kept()), set(keeper.taken()))
        for lot in lots_of(stock):
            if set(comings) <= set(things_by_hand(stock, lot)):
                self.assertGreaterEqual(price_by_hand(stock, lot), borne)

    def test_drawn_stocks(self):
        draw = random.Random(5)
        for stock in drawn_full(731, 8) + drawn_again(732)[::6] + FULL_STOCKS:
            self.check_promise(stock, draw.sample(range(stock[0]), draw.randint(1, stock[0])))
            self.check_promise(stock, draw.sample(range(stock[0]), stock[0]))


if __name__ == "__main__":
    unittest.main()
