"""Stocks and things of other kinds that several tests hand in."""

import random
from itertools import combinations_with_replacement

from tests.plain import subsets


def nested(kind, deep):
    thing = 0
    for step in range(deep):
        thing = {"a": thing} if kind == "dict" else [thing] if kind == "list" else (thing,)
    return thing


def other_kinds():
    """Things that are neither stocks nor lots, made anew at each call."""
    return [
        None, True, False, 0, 1, 3, -1, 10 ** 39, -(10 ** 39), "", "0", "stock", "3 : 0,1=5 2=12", "x" * 2000,
        [], [0], [0, 1], [3, [[[0], 5]]], {}, {0: 1}, {0: 3, 1: ()}, {"many": 3, "offers": ()}, [()], [(0,)],
        (None,), (True,), (False,), ("0",), ("",), ([],), ({},), ((),), ((0,),), (0, None), (0, True), (0, "1"),
        (0, [1]), ([0], 1), ({}, {}), (None, None), ("3", ()), ((0, 1), (0, 1)), (0, (1,)), (-1,), (-1, 0),
        (0, 0), (1, 0), (2, 1, 0), (0, 10 ** 39), (10 ** 39,), (-(10 ** 39),),
        nested("list", 30), nested("tuple", 30), nested("dict", 30), [0] * 8990, (0,) * 8990,
        tuple(range(8990)), list(range(8990)), {number: number for number in range(4000)},
    ]


def small_stocks(most_offers):
    """All stocks of one to three things with at most so many offers, their order aside; prices tell them apart."""
    stocks = []
    for many in (1, 2, 3):
        sets = [things for things in subsets(range(many)) if things]
        for size in range(most_offers + 1):
            for chosen in combinations_with_replacement(sets, size):
                stocks.append((many, tuple((things, 7 ** place) for place, things in enumerate(chosen))))
    return stocks


def drawn_price(draw, sort):
    if sort == "alike":
        return draw.choice((3, 3, 3, 6))
    if sort == "small":
        return draw.randint(1, 9)
    if sort == "great":
        return draw.choice((10 ** 40 - 1, 10 ** 39, 10 ** 39 + 1, draw.randint(1, 10 ** 40 - 1)))
    return draw.randint(1, 10 ** draw.randint(1, 40) - 1)


def drawn_stock(draw, many, count):
    """A stock drawn from few or many things an offer; about half of them lack a thing or have few covers."""
    sort = draw.choice(("alike", "small", "great", "mixed"))
    most = draw.randint(1, many)
    offers = []
    for place in range(count):
        things = tuple(sorted(draw.sample(range(many), draw.randint(1, most))))
        offers.append((things, drawn_price(draw, sort)))
    return (many, tuple(offers))


def filled(draw, stock):
    """The stock with each lacking thing put into some offer, so that it is full; it has an offer at least."""
    many, offers = stock
    offers = [[set(things), price] for things, price in offers]
    for thing in range(many):
        if not any(thing in things for things, price in offers):
            draw.choice(offers)[0].add(thing)
    return (many, tuple((tuple(sorted(things)), price) for things, price in offers))


def drawn_full(seed, most_offers=12):
    """Full stocks of one to ten things and one to so many offers, each pair of counts once."""
    draw = random.Random(seed)
    return [filled(draw, drawn_stock(draw, many, count))
            for many in range(1, 11) for count in range(1, most_offers + 1)]


def drawn_lacking(seed):
    """Stocks of one to ten things and none to twelve offers that lack a thing."""
    draw = random.Random(seed)
    stocks = []
    for many in range(1, 11):
        for count in range(13 if many > 1 else 1):
            lacking = draw.randrange(many)
            offers = drawn_stock(draw, many - 1, count)[1] if many > 1 else ()
            stocks.append((many, tuple((tuple(thing + (thing >= lacking) for thing in things), price)
                                       for things, price in offers)))
    return stocks


def drawn_again(seed):
    """Full stocks in which about half of the offers come of another one, a thing left out or none, a price beside."""
    draw = random.Random(seed)
    stocks = []
    for many in range(1, 11):
        for count in range(1, 13):
            offers = list(filled(draw, drawn_stock(draw, many, (count + 1) // 2))[1])
            while len(offers) < count:
                things, price = draw.choice(offers)
                things = list(things)
                if len(things) > 1 and draw.random() < 0.7:
                    things.remove(draw.choice(things))
                offers.append((tuple(things), min(10 ** 40 - 1, max(1, price + draw.choice((-1, 0, 0, 1))))))
            draw.shuffle(offers)
            stocks.append((many, tuple(offers)))
    return stocks


def drawn_row(seed):
    """Full stocks in a row, of one to ten things and one to twelve offers, each pair of counts once."""
    draw = random.Random(seed)
    stocks = []
    for many in range(1, 11):
        for count in range(1, 13):
            sort = draw.choice(("alike", "small", "great", "mixed"))
            longest = draw.randint(1, many)
            ends = []
            for place in range(count):
                first = draw.randrange(many)
                ends.append([first, min(many - 1, first + draw.randrange(longest))])
            for thing in range(many):
                if not any(first <= thing <= last for first, last in ends):
                    chosen = draw.choice(ends)
                    chosen[:] = [min(chosen[0], thing), max(chosen[1], thing)]
            stocks.append((many, tuple((tuple(range(first, last + 1)), drawn_price(draw, sort))
                                       for first, last in ends)))
    return stocks


def spoilt(lot, count):
    """The lot of a stock of so many offers with one thing otherwise: no lot any more."""
    things = [list(lot), {number: True for number in lot}, str(lot), (lot,), lot + (count,), lot + (-1,), (-1,) + lot,
              lot + (None,), lot + ("0",), lot + ((),), lot + ([],), lot + (10 ** 39,)]
    for place, number in enumerate(lot):
        for other in (number == 1, not number, None, str(number), count, count + number, -1, -number - 1, (number,),
                      [number], {}, number - count, (number, 1), 10 ** 39):
            things.append(lot[:place] + (other,) + lot[place + 1:])
        things.append(lot[:place] + (number,) + lot[place:])
    if len(lot) > 1:
        things.append(lot[::-1])
        things.append(lot[1:] + lot[:1])
        things.append(lot[:1] + lot)
    return things


NO_FRACTIONS = [
    (2, 4), (0, 2), (0, 7), (3, 3), (10, 5), (10 ** 39, 10), (1, 0), (0, 0), (1, -1), (-1, -2), (0, -1), (True, 1),
    (1, True), (False, 1), (True, True), (True, 2), (3, False), ("1", 1), (1, "2"), ("1", "2"), (None, 1), (1, None),
    (), (1,), (1, 2, 3), (0, 1, 1), [0, 1], [1, 2], 0, 1, -1, True, False, None, "", "0", "1/2", {}, {0: 1},
    ((0, 1), 1), (0, (1,)), ([0], 1), (1, [1]), ((1, 2),), 0.5, 1.0, (1.0, 2), (1, 2.0), (0, 1.0),
]

FULL_STOCKS = [
    (1, (((0,), 1),)),
    (1, (((0,), 1), ((0,), 1))),
    (3, (((0, 1), 5), ((1,), 2), ((2,), 12))),
    (4, (((0, 1), 3), ((1, 2), 3), ((2, 3), 3), ((0, 3), 3))),
    (10, tuple(((thing,), thing + 1) for thing in range(10))),
    (10, (((0, 1, 2, 3, 4, 5, 6, 7, 8, 9), 10 ** 39),) * 12),
    (10, tuple(((thing, thing + 1), 10 ** thing) for thing in range(9)) + (((4,), 4), ((5,), 5), ((0, 9), 9))),
]

LACKING_STOCKS = [
    (1, ()),
    (10, ()),
    (2, (((0,), 1),)),
    (2, (((1,), 1),)),
    (3, (((0, 2), 1), ((0,), 4), ((2,), 4))),
    (10, tuple(((thing,), 10 ** 39) for thing in range(9))),
    (10, tuple(((thing % 9 + 1,), 1) for thing in range(12))),
]
