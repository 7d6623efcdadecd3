"""The cheapest cover of a full stock."""

from cheapcovers.covers import priced_covers
from cheapcovers.stocks import need_full


def cheapest_cover(stock):
    need_full(stock)
    return min(priced_covers(stock))[1]
