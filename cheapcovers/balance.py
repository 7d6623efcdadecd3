"""A bearing and a sharing of a full stock whose worth and price are alike."""

from cheapcovers.kinds import reduced
from cheapcovers.stocks import need_full

# Bearings are bettered step by step on a table with a row for each offer and the goal's row last, a column for each
# thing, for what each offer has left, and the bounds' column last. All of it is meant by one bottom, so that
# only whole numbers stand in it. Where the goal's row has nothing below nought any more, it tells the sharing.


def balanced(stock):
    need_full(stock)
    rows = first_rows(stock)
    basis = [stock[0] + number for number in range(len(stock[1]))]
    bottom = 1
    column = column_to_enter(rows)
    while column is not None:
        place = place_to_leave(rows, basis, column)
        rows = pivoted(rows, place, column, bottom)
        bottom = rows[place][column]
        basis[place] = column
        column = column_to_enter(rows)
    return (bearing_told(stock, rows, basis, bottom), sharing_told(stock, rows, bottom))


def first_rows(stock):
    rows = []
    count = len(stock[1])
    for number, offer in enumerate(stock[1]):
        things = [1 if thing in offer[0] else 0 for thing in range(stock[0])]
        rows.append(things + [1 if other == number else 0 for other in range(count)] + [offer[1]])
    rows.append([-1] * stock[0] + [0] * (count + 1))
    return rows


def column_to_enter(rows):
    # Always the first column, here and below: so no basis comes twice, and the steps end.
    goal = rows[-1]
    for column in range(len(goal) - 1):
        if goal[column] < 0:
            return column
    return None


def place_to_leave(rows, basis, column):
    # There is such a row, since each thing is in some offer, whose price is the most that it can bear.
    best = None
    for place in range(len(basis)):
        if rows[place][column] > 0 and (best is None or leaves_ahead(rows, basis, column, place, best)):
            best = place
    return best


def leaves_ahead(rows, basis, column, place, best):
    room = rows[place][-1] * rows[best][column]
    other = rows[best][-1] * rows[place][column]
    return room < other or (room == other and basis[place] < basis[best])


def pivoted(rows, place, column, bottom):
    chosen = rows[place]
    return [row if number == place else swept(row, chosen, column, bottom) for number, row in enumerate(rows)]


def swept(row, chosen, column, bottom):
    # Each entry comes as a determinant of entries of the first table, so the division leaves no rest.
    return [(one * chosen[column] - other * row[column]) // bottom for one, other in zip(row, chosen)]


def bearing_told(stock, rows, basis, bottom):
    borne = dict([(column, rows[place][-1]) for place, column in enumerate(basis)])
    return tuple([reduced(borne.get(thing, 0), bottom) for thing in range(stock[0])])


def sharing_told(stock, rows, bottom):
    return tuple([reduced(rows[-1][stock[0] + number], bottom) for number in range(len(stock[1]))])
