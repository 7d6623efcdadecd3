"""Bargains: an offer's price by how many new things it has, and the cover that the best ones lead to."""

from cheapcovers.kinds import is_less, reduced
from cheapcovers.stocks import need_full, need_offer, things_of


def bargain_of(stock, offer, lot):
    need_offer(stock, offer)
    return bargain_behind(stock[1][offer], things_of(stock, lot))


def best_bargain(stock, lot):
    return best_behind(stock, things_of(stock, lot))


def bargain_way(stock):
    need_full(stock)
    way = []
    had = []
    while len(had) < stock[0]:
        number = best_behind(stock, had)
        offer = stock[1][number]
        things = new_things(offer, had)
        way.append((number, things, bargain_behind(offer, had)))
        had.extend(things)
    return way


def bargain_cover(stock):
    return tuple(sorted([step[0] for step in bargain_way(stock)]))


def best_behind(stock, had):
    best = None
    least = None
    for number, offer in enumerate(stock[1]):
        bargain = bargain_behind(offer, had)
        if bargain is not None and (least is None or is_less(bargain, least)):
            best = number
            least = bargain
    return best


def bargain_behind(offer, had):
    many = len(new_things(offer, had))
    return reduced(offer[1], many) if many > 0 else None


def new_things(offer, had):
    return tuple([thing for thing in offer[0] if thing not in had])
