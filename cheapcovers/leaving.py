"""What may be left out of a full stock beforehand, so that the cheapest price stays."""

from cheapcovers.covers import need_cover
from cheapcovers.stocks import narrowed, need_full, need_lot, offers_with, rest_of

# A table has a row for each offer or each thing, and in it tells of each of them whether the row's own one could be
# left out for it: an offer for one that has as much and costs no more, a thing for one that no offer has without it.


def ruled_offers(stock):
    need_full(stock)
    return ruled_by(table_of_offers(stock))


def ruled_things(stock):
    need_full(stock)
    return ruled_by(table_of_things(stock))


def lesser_stock(stock):
    return stays_by_sweeps(stock)[-1]


def sweeps(stock):
    stays = stays_by_sweeps(stock)
    return [left_out(stays[place - 1], stays[place]) for place in range(1, len(stays))]


def led_back(stock, lot):
    # The lesser stock has no more offers than the old one, so what is no lot of that is no cover of this.
    need_lot(stock, lot)
    lesser = lesser_stock(stock)
    need_cover(lesser[0], lot)
    return tuple([lesser[2][number] for number in lot])


def table_of_offers(stock):
    return [as_good_offers(stock, offer) for offer in stock[1]]


def as_good_offers(stock, offer):
    return [other[1] <= offer[1] and are_among(offer[0], other[0]) for other in stock[1]]


def table_of_things(stock):
    return [as_scarce_things(stock, thing) for thing in range(stock[0])]


def as_scarce_things(stock, thing):
    having = offers_with(stock, thing)
    return [are_among(offers_with(stock, other), having) for other in range(stock[0])]


def are_among(numbers, others):
    return all([number in others for number in numbers])


def ruled_by(table):
    ruled = []
    for number in range(len(table)):
        rulers = [other for other in range(len(table)) if rules(table, other, number)]
        if rulers:
            ruled.append((number, rulers[0]))
    return ruled


def rules(table, other, number):
    # Of two that could be left out for one another the lesser rules, so none rules itself, and no circle comes.
    return table[number][other] and (other < number or not table[other][number])


def stays_by_sweeps(stock):
    # Tuples (stock, things, offers): what stays behind no sweep, one, two and so on, with its old numbers.
    stays = [(stock, tuple(range(stock[0])), tuple(range(len(stock[1]))))]
    later = behind_sweep(stays[-1])
    while later != stays[-1]:
        stays.append(later)
        later = behind_sweep(later)
    return stays


def behind_sweep(stay):
    stock = stay[0]
    numbers = not_ruled(len(stock[1]), ruled_offers(stock))
    every = list(range(stock[0]))
    things = not_ruled(stock[0], ruled_things(rest_of(stock, every, numbers)))
    numbers = [number for number in numbers if narrowed(stock[1][number], things)]
    old_things = tuple([stay[1][thing] for thing in things])
    old_offers = tuple([stay[2][number] for number in numbers])
    return (rest_of(stock, things, numbers), old_things, old_offers)


def not_ruled(count, ruled):
    out = [pair[0] for pair in ruled]
    return [number for number in range(count) if number not in out]


def left_out(stay, later):
    return (missing(stay[2], later[2]), missing(stay[1], later[1]))


def missing(numbers, others):
    return tuple([number for number in numbers if number not in others])
