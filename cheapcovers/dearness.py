"""How dear an offer may get: cheapest covers with it and without it, and its reach."""

from cheapcovers.covers import priced_covers
from cheapcovers.errors import NoNumber
from cheapcovers.kinds import is_whole
from cheapcovers.stocks import exchanged, need_full, need_offer, price_of


def cheapest_with(stock, offer):
    need_offer(stock, offer)
    need_full(stock)
    return min([cover for cover in priced_covers(stock) if offer in cover[1]])[1]


def cheapest_without(stock, offer):
    need_offer(stock, offer)
    need_full(stock)
    covers = [cover for cover in priced_covers(stock) if offer not in cover[1]]
    return min(covers)[1] if covers else None


def priced(stock, offer, price):
    need_offer(stock, offer)
    if not is_whole(price) or price < 1:
        raise NoNumber("not a whole number from 1 on")
    return exchanged(stock, offer, ((stock[1][offer][0], price),))


def reach_of(stock, offer):
    without = cheapest_without(stock, offer)
    if without is None:
        return None
    beside = price_of(stock, cheapest_with(stock, offer)) - stock[1][offer][1]
    return price_of(stock, without) - beside


def in_some(stock):
    covers = cheapest_covers(stock)
    return [number for number in range(len(stock[1])) if any([number in cover for cover in covers])]


def in_all(stock):
    covers = cheapest_covers(stock)
    return [number for number in range(len(stock[1])) if all([number in cover for cover in covers])]


def cheapest_covers(stock):
    need_full(stock)
    covers = priced_covers(stock)
    least = min(covers)[0]
    return [cover[1] for cover in covers if cover[0] == least]
