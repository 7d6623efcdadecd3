"""How many times dearer the cover by bargains may be, and what things bear by bargains, lessened by it."""

from cheapcovers.bargains import bargain_way
from cheapcovers.errors import NoNumber
from cheapcovers.kinds import is_whole, reduced, together

MOST_STEPS = 100


def steps_together(many):
    if not is_whole(many) or many < 0 or many > MOST_STEPS:
        raise NoNumber("not a whole number from 0 to 100")
    return together([(1, step) for step in range(1, many + 1)])


def lessened(stock):
    borne = borne_by_bargains(stock)
    times = steps_together(max([len(offer[0]) for offer in stock[1]]))
    return tuple([reduced(each[0] * times[1], each[1] * times[0]) for each in borne])


def borne_by_bargains(stock):
    borne = {}
    for step in bargain_way(stock):
        for thing in step[1]:
            borne[thing] = step[2]
    return [borne[thing] for thing in range(stock[0])]
