"""Offers apart, no two of which have a thing in common."""

from cheapcovers.stocks import is_lot, offers_of, things_together


def are_apart(stock, thing):
    return is_lot(stock, thing) and have_nothing_in_common(offers_of(stock, thing))


def most_apart(stock):
    # Pairs compare so that more offers come first, lots of as many offers as lots compare.
    return min([(-len(lot), lot) for lot in lots_apart(stock)])[1]


def lots_apart(stock):
    # Offers that are apart stay so when one is left out, so each such lot is a shorter one with an offer behind it.
    found = [()]
    for number in range(len(stock[1])):
        longer = [lot + (number,) for lot in found]
        found = found + [lot for lot in longer if are_apart(stock, lot)]
    return found


def have_nothing_in_common(offers):
    return len(things_together(offers)) == sum([len(offer[0]) for offer in offers])
