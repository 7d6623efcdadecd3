"""Hits, things of which each offer has one at least, and the stock in which offers and things change places."""

from cheapcovers.errors import NoStock
from cheapcovers.kinds import is_rising
from cheapcovers.stocks import MOST_THINGS, need_full, offers_with


def is_hit(stock, thing):
    return is_rising(thing, stock[0]) and all([is_offer_hit(offer, thing) for offer in stock[1]])


def fewest_hit(stock):
    # Pairs compare as hits do here: by how many things they have, those of as many things as tuples compare.
    hits = [things for things in tuples_of_things(stock[0]) if is_hit(stock, things)]
    return min([(len(hit), hit) for hit in hits])[1]


def turned(stock):
    need_full(stock)
    if len(stock[1]) > MOST_THINGS:
        raise NoStock("more offers than a stock can have things")
    return (len(stock[1]), tuple([(offers_with(stock, thing), 1) for thing in range(stock[0])]))


def is_offer_hit(offer, things):
    return any([thing in offer[0] for thing in things])


def tuples_of_things(many):
    found = [()]
    for thing in range(many):
        found = found + [things + (thing,) for things in found]
    return found
