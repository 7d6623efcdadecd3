"""A plain look at all lots of a stock, apart from the program, that its answers are held against."""

from fractions import Fraction
from itertools import combinations


def subsets(numbers):
    numbers = list(numbers)
    return [chosen for size in range(len(numbers) + 1) for chosen in combinations(numbers, size)]


def lots_of(stock):
    return subsets(range(len(stock[1])))


def things_by_hand(stock, lot):
    return tuple(thing for thing in range(stock[0]) if any(thing in stock[1][number][0] for number in lot))


def price_by_hand(stock, lot):
    total = 0
    for number in lot:
        total = total + stock[1][number][1]
    return total


def covers_by_hand(stock):
    """All covers, those of fewer offers ahead."""
    every = set(range(stock[0]))
    sets = [set(things) for things, price in stock[1]]
    return [lot for lot in lots_of(stock) if set().union(*[sets[number] for number in lot]) == every]


def ordered_by_hand(stock):
    """All covers as they are numbered."""
    return sorted(covers_by_hand(stock), key=lambda lot: (price_by_hand(stock, lot), lot))


def is_thin_by_hand(stock, cover):
    """Each of its offers has a thing that none of the others has."""
    sets = [set(stock[1][number][0]) for number in cover]
    return all(sets[place] - set().union(*sets[:place], *sets[place + 1:]) for place in range(len(sets)))


def thin_by_hand(stock):
    return sorted(cover for cover in covers_by_hand(stock) if is_thin_by_hand(stock, cover))


def thinned_by_hand(stock, cover):
    left = set(cover)
    for number in sorted(cover, reverse=True):
        if len(things_by_hand(stock, left - {number})) == stock[0]:
            left = left - {number}
    return tuple(sorted(left))


def bargain_by_hand(stock, number, lot):
    things, price = stock[1][number]
    new = set(things) - set(things_by_hand(stock, lot))
    return Fraction(price, len(new)) if new else None


def best_by_hand(stock, lot):
    found = [(bargain_by_hand(stock, number, lot), number) for number in range(len(stock[1]))]
    found = [pair for pair in found if pair[0] is not None]
    return min(found)[1] if found else None


def way_by_hand(stock):
    """The way of bargains, its bargains as Python's own fractions."""
    way = []
    lot = ()
    while len(things_by_hand(stock, lot)) < stock[0]:
        number = best_by_hand(stock, lot)
        new = tuple(sorted(set(stock[1][number][0]) - set(things_by_hand(stock, lot))))
        way.append((number, new, bargain_by_hand(stock, number, lot)))
        lot = tuple(sorted(lot + (number,)))
    return way


def as_pair(fraction):
    """A fraction of Python's own as a tuple (top, bottom)."""
    return (fraction.numerator, fraction.denominator)
