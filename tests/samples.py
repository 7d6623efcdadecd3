"""Stocks and things of other kinds that several tests hand in."""

from itertools import combinations, combinations_with_replacement


def nested(kind, deep):
    thing = 0
    for step in range(deep):
        thing = {"a": thing} if kind == "dict" else [thing] if kind == "list" else (thing,)
    return thing


def other_kinds():
    """Things that are neither stocks nor lots, made anew at each call."""
    return [
        None, True, False, 0, 1, 3, -1, 10 ** 39, -(10 ** 39), "", "0", "stock", "3 : 0,1=5 2=12", "x" * 2000,
        [], [0], [0, 1], [3, [[[0], 5]]], {}, {0: 1}, {0: 3, 1: ()}, {"many": 3, "offers": ()}, [()], [(0,)],
        (None,), (True,), (False,), ("0",), ("",), ([],), ({},), ((),), ((0,),), (0, None), (0, True), (0, "1"),
        (0, [1]), ([0], 1), ({}, {}), (None, None), ("3", ()), ((0, 1), (0, 1)), (0, (1,)), (-1,), (-1, 0),
        (0, 0), (1, 0), (2, 1, 0), (0, 10 ** 39), (10 ** 39,), (-(10 ** 39),),
        nested("list", 30), nested("tuple", 30), nested("dict", 30), [0] * 8990, (0,) * 8990,
        tuple(range(8990)), list(range(8990)), {number: number for number in range(4000)},
    ]


def subsets(numbers):
    numbers = list(numbers)
    return [chosen for size in range(len(numbers) + 1) for chosen in combinations(numbers, size)]


def small_stocks(most_offers):
    """All stocks of one to three things with at most so many offers, their order aside; prices tell them apart."""
    stocks = []
    for many in (1, 2, 3):
        sets = [things for things in subsets(range(many)) if things]
        for size in range(most_offers + 1):
            for chosen in combinations_with_replacement(sets, size):
                stocks.append((many, tuple((things, 7 ** place) for place, things in enumerate(chosen))))
    return stocks


FULL_STOCKS = [
    (1, (((0,), 1),)),
    (1, (((0,), 1), ((0,), 1))),
    (3, (((0, 1), 5), ((1,), 2), ((2,), 12))),
    (4, (((0, 1), 3), ((1, 2), 3), ((2, 3), 3), ((0, 3), 3))),
    (10, tuple(((thing,), thing + 1) for thing in range(10))),
    (10, (((0, 1, 2, 3, 4, 5, 6, 7, 8, 9), 10 ** 39),) * 12),
    (10, tuple(((thing, thing + 1), 10 ** thing) for thing in range(9)) + (((4,), 4), ((5,), 5), ((0, 9), 9))),
]

LACKING_STOCKS = [
    (1, ()),
    (10, ()),
    (2, (((0,), 1),)),
    (2, (((1,), 1),)),
    (3, (((0, 2), 1), ((0,), 4), ((2,), 4))),
    (10, tuple(((thing,), 10 ** 39) for thing in range(9))),
    (10, tuple(((thing % 9 + 1,), 1) for thing in range(12))),
]
