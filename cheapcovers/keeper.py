"""Keepers, which take offers while things come, and keep what shows that they took none too dear."""

from cheapcovers.errors import NoRow, NoStock, NotFull
from cheapcovers.stocks import is_stock, need_thing, offers_with, price_of, things_of


class Keeper:
    def __init__(self, stock):
        if not is_stock(stock):
            raise NoStock("not a stock")
        self.stock = stock
        self.things = []
        # For each offer that is taken a tuple (coming, thing, share, offer): at which coming, of which thing, what
        # this thing bears since then, and the offer's number.
        self.steps = []

    def come(self, thing):
        need_thing(self.stock, thing)
        numbers = offers_with(self.stock, thing)
        if not numbers:
            raise NotFull("no offer has this thing")
        # A thing that came ahead is one that a taken offer has, so this one look is enough.
        if thing not in things_of(self.stock, self.taken()):
            best = min([(self.room(number), number) for number in numbers])
            self.steps.append((len(self.things), thing, best[0], best[1]))
        self.things.append(thing)

    def undo(self):
        if not self.things:
            raise NoRow("no coming is left to be undone")
        self.things.pop()
        if self.steps and self.steps[-1][0] == len(self.things):
            self.steps.pop()

    def came(self):
        return list(self.things)

    def taken(self):
        return tuple(sorted(self.in_order()))

    def bears(self):
        return tuple([(share, 1) for share in self.shares()])

    def paid(self):
        return price_of(self.stock, self.taken())

    def least_kept(self):
        kept = self.taken()
        for number in self.in_order()[::-1]:
            fewer = tuple([other for other in kept if other != number])
            if self.is_enough(fewer):
                kept = fewer
        return kept

    def in_order(self):
        return [step[3] for step in self.steps]

    def shares(self):
        borne = dict([(step[1], step[2]) for step in self.steps])
        return [borne.get(thing, 0) for thing in range(self.stock[0])]

    def room(self, number):
        offer = self.stock[1][number]
        shares = self.shares()
        return offer[1] - sum([shares[thing] for thing in offer[0]])

    def is_enough(self, lot):
        had = things_of(self.stock, lot)
        return all([thing in had for thing in sorted(set(self.things))])
