"""Stocks, tuples (many, offers), and their lots, rising tuples of offers' numbers."""

from cheapcovers.errors import NoCover, NoOffer, NoThing, NotFull
from cheapcovers.kinds import is_pair, is_rising, is_whole

MOST_THINGS = 10
MOST_OFFERS = 12


def is_stock(thing):
    if not is_pair(thing):
        return False
    many = thing[0]
    offers = thing[1]
    if not is_whole(many) or many < 1 or many > MOST_THINGS:
        return False
    if not isinstance(offers, tuple) or len(offers) > MOST_OFFERS:
        return False
    return all([is_offer(offer, many) for offer in offers])


def is_offer(thing, many):
    if not is_pair(thing):
        return False
    things = thing[0]
    price = thing[1]
    return is_rising(things, many) and len(things) > 0 and is_whole(price) and price > 0


def is_lot(stock, thing):
    return is_rising(thing, len(stock[1]))


def is_full(stock):
    return have_all(stock, stock[1])


def things_of(stock, lot):
    return things_together(offers_of(stock, lot))


def price_of(stock, lot):
    return sum([offer[1] for offer in offers_of(stock, lot)])


def needed(stock):
    need_full(stock)
    return [number for number in range(len(stock[1])) if is_needed(stock, number)]


def is_needed(stock, number):
    # All other offers are the most that a cover without this one can have.
    return not is_full(exchanged(stock, number, ()))


def need_full(stock):
    if not is_full(stock):
        raise NotFull("some thing is in no offer of the stock")


def need_offer(stock, offer):
    if not is_whole(offer) or offer < 0 or offer >= len(stock[1]):
        raise NoOffer("not a number of one of the stock's offers")


def need_thing(stock, thing):
    if not is_whole(thing) or thing < 0 or thing >= stock[0]:
        raise NoThing("not one of the stock's things")


def need_lot(stock, lot):
    if not is_lot(stock, lot):
        raise NoCover("not a rising tuple of numbers of the stock's offers")


def offers_of(stock, lot):
    need_lot(stock, lot)
    return [stock[1][number] for number in lot]


def things_together(offers):
    things = []
    for offer in offers:
        things.extend(offer[0])
    return tuple(sorted(set(things)))


def have_all(stock, offers):
    return len(things_together(offers)) == stock[0]


def offers_with(stock, thing):
    return tuple([number for number, offer in enumerate(stock[1]) if thing in offer[0]])


def exchanged(stock, number, offers):
    # With no offers in its place the offer is gone, and those behind it are numbered one less.
    return (stock[0], stock[1][:number] + offers + stock[1][number + 1:])


def rest_of(stock, things, numbers):
    # What is left is numbered anew: each thing and each offer by its place among those that stay.
    offers = [stock[1][number] for number in numbers]
    return (len(things), tuple([(narrowed(offer, things), offer[1]) for offer in offers]))


def narrowed(offer, things):
    return tuple([place for place, thing in enumerate(things) if thing in offer[0]])
