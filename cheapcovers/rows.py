"""Stocks in a row, where each offer's things are a stretch and all is settled from the left."""

from cheapcovers.cheapest import cheapest_cover
from cheapcovers.errors import NoThing, NotInRow
from cheapcovers.kinds import is_whole
from cheapcovers.stocks import narrowed, need_full


def in_row(stock):
    return all([is_stretch(offer[0]) for offer in stock[1]])


def makes_row(stock, thing):
    return is_order(stock, thing) and in_row(laid_by(stock, thing))


def laid(stock, order):
    if not is_order(stock, order):
        raise NoThing("not a tuple of all things of the stock, each once")
    return laid_by(stock, order)


def row_cover(stock):
    if not in_row(stock):
        raise NotInRow("the things of some offer are no stretch")
    need_full(stock)
    least = least_from_left(stock)
    bearing = tuple([(least[thing + 1] - least[thing], 1) for thing in range(stock[0])])
    return (cheapest_cover(stock), bearing)


def is_stretch(things):
    return things[-1] - things[0] == len(things) - 1


def is_order(stock, thing):
    # Numbers are sorted only once they are known to be such: texts or lists among them would raise.
    if not isinstance(thing, tuple) or not all([is_whole(number) for number in thing]):
        return False
    return sorted(thing) == list(range(stock[0]))


def laid_by(stock, order):
    return (stock[0], tuple([(narrowed(offer, order), offer[1]) for offer in stock[1]]))


def least_from_left(stock):
    # At each place the least price at which all things to the left of it can be had. It never falls from place
    # to place, and by no offer's stretch it rises by more than the offer's price: so what it rises by is a bearing.
    least = [0]
    for thing in range(stock[0]):
        offers = [offer for offer in stock[1] if thing in offer[0]]
        least.append(min([least[offer[0][0]] + offer[1] for offer in offers]))
    return least
