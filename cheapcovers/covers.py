"""Covers, lots that have all things, and thin ones, of which no offer can be left out."""

from cheapcovers.errors import NoCover
from cheapcovers.stocks import have_all, is_lot, need_full, offers_of


def is_cover(stock, thing):
    return is_lot(stock, thing) and have_all(stock, offers_of(stock, thing))


def is_thin(stock, cover):
    need_cover(stock, cover)
    return not any([is_cover(stock, without_place(cover, place)) for place in range(len(cover))])


def thinned(stock, cover):
    need_cover(stock, cover)
    left = cover
    # Each look sees what is left by then, so of two offers that could go by turns the greater goes.
    for place in range(len(cover) - 1, -1, -1):
        fewer = without_place(left, place)
        if is_cover(stock, fewer):
            left = fewer
    return left


def all_thin(stock):
    need_full(stock)
    covers = [cover[1] for cover in priced_covers(stock)]
    found = dict([(cover, True) for cover in covers])
    return [cover for cover in covers if not has_lesser(cover, found)]


def has_lesser(cover, found):
    # Where several offers can be left out together, each of them can be left out alone.
    return any([without_place(cover, place) in found for place in range(len(cover))])


def without_place(lot, place):
    return lot[:place] + lot[place + 1:]


def need_cover(stock, cover):
    if not is_cover(stock, cover):
        raise NoCover("not a rising tuple of numbers of offers that have all things")


def priced_covers(stock):
    # Pairs (price, lot) compare as covers are ordered: by their price, those of one price as lots compare.
    every = bits_of(stock[0], list(range(stock[0])))
    return [(known[0], known[1]) for known in known_lots(stock) if known[2] == every]


def known_lots(stock):
    # Tuples (price, lot, bits), rising by lots: the empty one, those that begin with the number, the others.
    lots = [(0, (), 0)]
    for number in range(len(stock[1]) - 1, -1, -1):
        offer = stock[1][number]
        bits = bits_of(stock[0], offer[0])
        longer = [(offer[1] + known[0], (number,) + known[1], bits | known[2]) for known in lots]
        lots = lots[:1] + longer + lots[1:]
    return lots


def bits_of(many, things):
    # Things of many lots are put together as bits, since tuples would be slow for thousands of lots.
    bits = 0
    for thing in range(many):
        bits = bits * 2
        if thing in things:
            bits = bits + 1
    return bits
