"""Papers of cases, which show that no cover costs less than so much."""

from cheapcovers.balance import balanced
from cheapcovers.cheapest import cheapest_cover
from cheapcovers.errors import NoNumber
from cheapcovers.kinds import is_fraction, is_less, is_whole, together
from cheapcovers.shares import are_shares, is_borne
from cheapcovers.stocks import narrowed, price_of, rest_of, things_together


def paper_shows(stock, least, thing):
    if not is_fraction(least):
        raise NoNumber("not a fraction")
    return shows_behind(stock, least, thing, (), ())


def case_paper(stock):
    least = price_of(stock, cheapest_cover(stock))
    return paper_behind(stock, least, (), ())


def shows_behind(stock, least, thing, taken, left_out):
    # No offer may be met twice on the way, so this goes at most as deep as there are offers.
    if not isinstance(thing, tuple) or len(thing) not in (2, 4):
        return False
    if len(thing) == 2:
        return thing[0] == "bear" and bears_behind(stock, least, thing[1], taken, left_out)
    offer = thing[1]
    if thing[0] != "cases" or not is_whole(offer) or offer not in free_offers(stock, taken, left_out):
        return False
    if not shows_behind(stock, least, thing[2], taken + (offer,), left_out):
        return False
    return shows_behind(stock, least, thing[3], taken, left_out + (offer,))


def bears_behind(stock, least, bearing, taken, left_out):
    if not are_shares(bearing, stock[0]):
        return False
    if any([bearing[thing] != (0, 1) for thing in had_things(stock, taken)]):
        return False
    if not all([is_borne(stock[1][number], bearing) for number in free_offers(stock, taken, left_out)]):
        return False
    shown = together(bearing + ((paid_for(stock, taken), 1),))
    return not is_less(shown, least)


def free_offers(stock, taken, left_out):
    return [number for number in range(len(stock[1])) if number not in taken and number not in left_out]


def had_things(stock, taken):
    return things_together([stock[1][number] for number in taken])


def paid_for(stock, taken):
    return sum([stock[1][number][1] for number in taken])


def paper_behind(stock, least, taken, left_out):
    missing = least - paid_for(stock, taken)
    if missing <= 0:
        return bear_paper(stock, [], [])
    had = had_things(stock, taken)
    wanted = [thing for thing in range(stock[0]) if thing not in had]
    free = [number for number in free_offers(stock, taken, left_out) if narrowed(stock[1][number], wanted)]
    best = balanced(rest_of(stock, wanted, free))
    if not is_less(together(best[0]), (missing, 1)):
        return bear_paper(stock, wanted, best[0])
    offer = split_offer(free, best[1])
    taking = paper_behind(stock, least, taken + (offer,), left_out)
    leaving = paper_behind(stock, least, taken, left_out + (offer,))
    return ("cases", offer, taking, leaving)


def bear_paper(stock, things, shares):
    borne = dict(zip(things, shares))
    return ("bear", tuple([borne.get(thing, (0, 1)) for thing in range(stock[0])]))


def split_offer(free, sharing):
    # Were all shares whole, they would make a cover of the cheapest price at least, and nothing would be missing.
    # And a share of less than 1 leaves room for others: without this offer each thing is still in some other one.
    return [number for number, share in zip(free, sharing) if share[1] > 1][0]
