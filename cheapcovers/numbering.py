"""Covers counted and by number, ordered by their price, those of one price as lots compare."""

from cheapcovers.covers import need_cover, priced_covers
from cheapcovers.errors import NoNumber
from cheapcovers.kinds import is_whole
from cheapcovers.stocks import need_full, price_of


def many_covers(stock):
    need_full(stock)
    return len(priced_covers(stock))


def many_upto(stock, price):
    if not is_whole(price) or price < 0:
        raise NoNumber("not a whole number from 0 on")
    need_full(stock)
    return len([cover for cover in priced_covers(stock) if cover[0] <= price])


def cover_at(stock, number):
    # A stock that is not full has no covers, so no number is let there, and NoNumber goes ahead of NotFull.
    covers = sorted(priced_covers(stock))
    if not is_whole(number) or number < 0 or number >= len(covers):
        raise NoNumber("not the number of a cover")
    return covers[number][1]


def number_of(stock, cover):
    # A stock that is not full has no covers, so NoCover leaves nothing to be refused with NotFull.
    need_cover(stock, cover)
    own = (price_of(stock, cover), cover)
    return len([other for other in priced_covers(stock) if other < own])


def next_cover(stock, cover):
    need_cover(stock, cover)
    own = (price_of(stock, cover), cover)
    later = [other for other in priced_covers(stock) if other > own]
    return min(later)[1] if later else None
