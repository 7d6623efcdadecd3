"""Bearings, shares of prices that things bear, and sharings, shares of offers that would do."""

from cheapcovers.errors import NoPaper
from cheapcovers.kinds import is_fraction, is_less, together


def is_bearing(stock, thing):
    return are_shares(thing, stock[0]) and all([is_borne(offer, thing) for offer in stock[1]])


def is_sharing(stock, thing):
    if not are_shares(thing, len(stock[1])):
        return False
    return all([is_shared(stock, number, thing) for number in range(stock[0])])


def worth_of(stock, bearing):
    if not is_bearing(stock, bearing):
        raise NoPaper("not a bearing of the stock")
    return together(bearing)


def shared_price(stock, sharing):
    if not is_sharing(stock, sharing):
        raise NoPaper("not a sharing of the stock")
    return together([(offer[1] * share[0], share[1]) for offer, share in zip(stock[1], sharing)])


def are_shares(thing, many):
    # The length is looked at ahead of what lies within, so that no long tuple is gone through for nothing.
    if not isinstance(thing, tuple) or len(thing) != many:
        return False
    return all([is_share(share) for share in thing])


def is_share(thing):
    return is_fraction(thing) and thing[0] >= 0


def is_borne(offer, shares):
    borne = together([shares[thing] for thing in offer[0]])
    return not is_less((offer[1], 1), borne)


def is_shared(stock, thing, shares):
    had = together([share for offer, share in zip(stock[1], shares) if thing in offer[0]])
    return not is_less(had, (1, 1))
