"""A plain look at all lots of a stock, apart from the program, that its answers are held against."""

import math
from fractions import Fraction
from itertools import combinations


def subsets(numbers):
    numbers = list(numbers)
    return [chosen for size in range(len(numbers) + 1) for chosen in combinations(numbers, size)]


def lots_of(stock):
    return subsets(range(len(stock[1])))


def things_by_hand(stock, lot):
    return tuple(thing for thing in range(stock[0]) if any(thing in stock[1][number][0] for number in lot))


def price_by_hand(stock, lot):
    total = 0
    for number in lot:
        total = total + stock[1][number][1]
    return total


def covers_by_hand(stock):
    """All covers, those of fewer offers ahead."""
    every = set(range(stock[0]))
    sets = [set(things) for things, price in stock[1]]
    return [lot for lot in lots_of(stock) if set().union(*[sets[number] for number in lot]) == every]


def ordered_by_hand(stock):
    """All covers as they are numbered."""
    return sorted(covers_by_hand(stock), key=lambda lot: (price_by_hand(stock, lot), lot))


def is_thin_by_hand(stock, cover):
    """Each of its offers has a thing that none of the others has."""
    sets = [set(stock[1][number][0]) for number in cover]
    return all(sets[place] - set().union(*sets[:place], *sets[place + 1:]) for place in range(len(sets)))


def thin_by_hand(stock):
    return sorted(cover for cover in covers_by_hand(stock) if is_thin_by_hand(stock, cover))


def thinned_by_hand(stock, cover):
    left = set(cover)
    for number in sorted(cover, reverse=True):
        if len(things_by_hand(stock, left - {number})) == stock[0]:
            left = left - {number}
    return tuple(sorted(left))


def bargain_by_hand(stock, number, lot):
    things, price = stock[1][number]
    new = set(things) - set(things_by_hand(stock, lot))
    return Fraction(price, len(new)) if new else None


def best_by_hand(stock, lot):
    found = [(bargain_by_hand(stock, number, lot), number) for number in range(len(stock[1]))]
    found = [pair for pair in found if pair[0] is not None]
    return min(found)[1] if found else None


def way_by_hand(stock):
    """The way of bargains, its bargains as Python's own fractions."""
    way = []
    lot = ()
    while len(things_by_hand(stock, lot)) < stock[0]:
        number = best_by_hand(stock, lot)
        new = tuple(sorted(set(stock[1][number][0]) - set(things_by_hand(stock, lot))))
        way.append((number, new, bargain_by_hand(stock, number, lot)))
        lot = tuple(sorted(lot + (number,)))
    return way


def as_pair(fraction):
    """A fraction of Python's own as a tuple (top, bottom)."""
    return (fraction.numerator, fraction.denominator)


def as_fraction(thing):
    """A tuple (top, bottom) as a fraction of Python's own; None of all that is none."""
    if type(thing) is not tuple or [type(part) for part in thing] != [int, int]:
        return None
    top, bottom = thing
    return Fraction(top, bottom) if bottom >= 1 and math.gcd(top, bottom) == 1 else None


def shares_by_hand(thing, count):
    """A tuple of so many fractions from 0 on, as a list of Python's own; None of all that is none."""
    if type(thing) is not tuple or len(thing) != count:
        return None
    shares = [as_fraction(part) for part in thing]
    return None if any(share is None or share < 0 for share in shares) else shares


def is_bearing_by_hand(stock, thing):
    shares = shares_by_hand(thing, stock[0])
    return shares is not None and all(sum(shares[one] for one in things) <= price for things, price in stock[1])


def is_sharing_by_hand(stock, thing):
    shares = shares_by_hand(thing, len(stock[1]))
    if shares is None:
        return False
    return all(sum(share for offer, share in zip(stock[1], shares) if one in offer[0]) >= 1 for one in range(stock[0]))


def shared_price_by_hand(stock, sharing):
    return sum(Fraction(*share) * price for share, (things, price) in zip(sharing, stock[1]))


def shown_by_hand(stock, paper, taken=frozenset(), left_out=frozenset()):
    """What a paper shows, a fraction of Python's own; None of all that is no paper."""
    if type(paper) is not tuple:
        return None
    if len(paper) == 2 and type(paper[0]) is str and paper[0] == "bear":
        return leaf_by_hand(stock, paper[1], taken, left_out)
    if len(paper) != 4 or type(paper[0]) is not str or paper[0] != "cases":
        return None
    number = paper[1]
    if type(number) is not int or number not in set(range(len(stock[1]))) - taken - left_out:
        return None
    parts = (shown_by_hand(stock, paper[2], taken | {number}, left_out),
             shown_by_hand(stock, paper[3], taken, left_out | {number}))
    return None if None in parts else min(parts)


def leaf_by_hand(stock, bearing, taken, left_out):
    shares = shares_by_hand(bearing, stock[0])
    if shares is None:
        return None
    for number, (things, price) in enumerate(stock[1]):
        borne = sum(shares[thing] for thing in things)
        if number in taken and borne != 0:
            return None
        if number not in taken and number not in left_out and borne > price:
            return None
    return price_by_hand(stock, taken) + sum(shares)


def rising_by_hand(thing, bound):
    """A rising tuple of unlike whole numbers from 0 on that are less than the bound."""
    if type(thing) is not tuple or any(type(number) is not int for number in thing):
        return False
    return list(thing) == sorted(set(thing)) and all(0 <= number < bound for number in thing)


def is_hit_by_hand(stock, thing):
    return rising_by_hand(thing, stock[0]) and all(set(things) & set(thing) for things, price in stock[1])


def fewest_hit_by_hand(stock):
    """The first hit among all tuples of things, those of fewer things ahead."""
    return next(things for things in subsets(range(stock[0])) if is_hit_by_hand(stock, things))


def are_apart_by_hand(stock, thing):
    if not rising_by_hand(thing, len(stock[1])):
        return False
    return all(not set(stock[1][one][0]) & set(stock[1][other][0]) for one, other in combinations(thing, 2))


def most_apart_by_hand(stock):
    lots = [lot for lot in lots_of(stock) if are_apart_by_hand(stock, lot)]
    most = max(len(lot) for lot in lots)
    return min(lot for lot in lots if len(lot) == most)


def ruled_by_hand(numbers, yields):
    """Tuples (number, least number that rules it); yields(a, b) tells whether a may be left out for b."""
    found = []
    for number in numbers:
        rulers = []
        for other in numbers:
            if other != number and yields(number, other):
                mutual = yields(other, number)
                if not mutual or other < number:
                    rulers.append(other)
        if rulers:
            found.append((number, min(rulers)))
    return found


def ruled_offers_by_hand(stock, things, offers):
    """The ruled offers of what is left of a stock: these things and these offers, by their old numbers."""
    left = {number: set(stock[1][number][0]) & set(things) for number in offers}
    return ruled_by_hand(sorted(offers), lambda one, other: (left[one] <= left[other]
                                                            and stock[1][other][1] <= stock[1][one][1]))


def ruled_things_by_hand(stock, things, offers):
    having = {thing: {number for number in offers if thing in stock[1][number][0]} for thing in things}
    return ruled_by_hand(sorted(things), lambda one, other: having[other] <= having[one])


def sweeps_by_hand(stock):
    """The sweeps that leave out something, and what stays behind the last one, all by old numbers."""
    things = set(range(stock[0]))
    offers = set(range(len(stock[1])))
    sweeps = []
    while True:
        ruled = {offer for offer, by in ruled_offers_by_hand(stock, things, offers)}
        stay = offers - ruled
        gone = {thing for thing, by in ruled_things_by_hand(stock, things, stay)}
        ruled = ruled | {number for number in stay if not set(stock[1][number][0]) & (things - gone)}
        if not ruled and not gone:
            return sweeps, tuple(sorted(things)), tuple(sorted(offers))
        sweeps.append((tuple(sorted(ruled)), tuple(sorted(gone))))
        things = things - gone
        offers = offers - ruled


def left_by_hand(stock, things, offers):
    """The stock of these things and offers alone, numbered anew."""
    place = {thing: number for number, thing in enumerate(things)}
    return (len(things), tuple((tuple(place[thing] for thing in stock[1][number][0] if thing in place),
                                stock[1][number][1]) for number in offers))


def in_row_by_hand(stock):
    return all(things == tuple(range(min(things), max(things) + 1)) for things, price in stock[1])


def is_order_by_hand(stock, thing):
    if type(thing) is not tuple or any(type(number) is not int for number in thing):
        return False
    return len(thing) == stock[0] and set(thing) == set(range(stock[0]))


def makes_row_by_hand(stock, thing):
    """Somewhere in the order so many things as each offer has stand side by side that are just its things."""
    if not is_order_by_hand(stock, thing):
        return False
    return all(any(set(thing[at:at + len(things)]) == set(things) for at in range(stock[0]))
               for things, price in stock[1])


def laid_by_hand(stock, order):
    place = {thing: at for at, thing in enumerate(order)}
    return (stock[0], tuple((tuple(sorted(place[thing] for thing in things)), price) for things, price in stock[1]))


def is_stock_by_hand(thing):
    if type(thing) is not tuple or len(thing) != 2:
        return False
    many, offers = thing
    if type(many) is not int or not 1 <= many <= 10 or type(offers) is not tuple or len(offers) > 12:
        return False
    for offer in offers:
        if type(offer) is not tuple or len(offer) != 2 or not rising_by_hand(offer[0], many) or offer[0] == ():
            return False
        if type(offer[1]) is not int or offer[1] < 1:
            return False
    return True


def needed_by_hand(stock):
    covers = covers_by_hand(stock)
    return [number for number in range(len(stock[1])) if all(number in cover for cover in covers)]


def cheapest_by_hand(stock):
    """All covers of the least price, rising."""
    covers = ordered_by_hand(stock)
    least = price_by_hand(stock, covers[0])
    return [cover for cover in covers if price_by_hand(stock, cover) == least]


def kept_by_hand(stock, comings):
    """What a keeper tells when these things came: taken, borne, paid and the lot that stays."""
    borne = [0] * stock[0]
    taken = []
    came = set()
    for thing in comings:
        if thing not in came and thing not in things_by_hand(stock, taken):
            rooms = [(price - sum(borne[other] for other in things), number)
                     for number, (things, price) in enumerate(stock[1]) if thing in things]
            room, number = min(rooms)
            borne[thing] = room
            taken.append(number)
        came.add(thing)
    left = list(taken)
    for number in taken[::-1]:
        if came <= set(things_by_hand(stock, [other for other in left if other != number])):
            left.remove(number)
    return {"came": list(comings), "taken": tuple(sorted(taken)), "bears": tuple((share, 1) for share in borne),
            "paid": price_by_hand(stock, taken), "least_kept": tuple(sorted(left))}
