"""A desk, which keeps a stock, is told rows of words and answers each with a text."""

from cheapcovers.balance import balanced
from cheapcovers.bargains import bargain_cover
from cheapcovers.cheapest import cheapest_cover
from cheapcovers.covers import is_thin
from cheapcovers.errors import NoRow, NoStock, NoText
from cheapcovers.shares import worth_of
from cheapcovers.stocks import exchanged, is_full, is_stock, need_offer, needed, price_of, things_of
from cheapcovers.texts import fraction_text, lot_read, lot_text, number_read, rising_read, stock_text

FIRST_STOCK = (1, ())

# What follows each first word, word by word; behind those of WITH_LOT all that follows is one lot.
FORMS = {
    "things": ("number",),
    "offer": ("things", "number"),
    "price": ("number", "number"),
    "drop": ("number",),
    "back": (),
    "stock": (),
    "full": (),
    "cover": (),
    "bargain": (),
    "bears": (),
    "needed": (),
}
WITH_LOT = ("has", "thin")
DEEDS = ("things", "offer", "price", "drop")


class Desk:
    def __init__(self):
        self.stock = FIRST_STOCK
        self.past = []

    def say(self, row):
        said = row_read(row)
        if said[0] == "back":
            self.go_back()
            return "ok"
        if said[0] in DEEDS:
            self.go_on(said)
            return "ok"
        return answer_of(self.stock, said)

    def go_on(self, said):
        later = stock_behind(self.stock, said)
        if not is_stock(later):
            raise NoStock("no stock would come of this deed")
        self.past.append(self.stock)
        self.stock = later

    def go_back(self):
        if not self.past:
            raise NoRow("no deed is left to be undone")
        self.stock = self.past.pop()


def row_read(row):
    # A tuple of the first word and what follows it, read.
    if not isinstance(row, str):
        raise NoRow("not a text")
    words = row.split(" ")
    try:
        if words[0] in WITH_LOT:
            return (words[0], lot_read(" ".join(words[1:])))
        return (words[0],) + parts_read(FORMS.get(words[0]), words[1:])
    except NoText:
        raise NoRow("no number, things or lot where one is due") from None


def parts_read(forms, words):
    if forms is None or len(forms) != len(words):
        raise NoRow("another first word, or another count of words")
    return tuple([part_read(form, word) for form, word in zip(forms, words)])


def part_read(form, word):
    return rising_read(word, ",") if form == "things" else number_read(word)


def stock_behind(stock, said):
    # What comes may be no stock: a thing or a price may be none of those let, things or offers too many.
    if said[0] == "things":
        return (said[1], ())
    if said[0] == "offer":
        return (stock[0], stock[1] + ((said[1], said[2]),))
    number = said[1]
    need_offer(stock, number)
    if said[0] == "drop":
        return exchanged(stock, number, ())
    return exchanged(stock, number, ((stock[1][number][0], said[2]),))


def answer_of(stock, said):
    word = said[0]
    if word == "stock":
        return stock_text(stock)
    if word == "full":
        return yes_or_no(is_full(stock))
    if word == "cover":
        return cover_text(stock, cheapest_cover(stock))
    if word == "bargain":
        return cover_text(stock, bargain_cover(stock))
    if word == "bears":
        return fraction_text(worth_of(stock, balanced(stock)[0]))
    if word == "needed":
        return lot_text(needed(stock))
    if word == "has":
        return lot_text(things_of(stock, said[1]))
    return yes_or_no(is_thin(stock, said[1]))


def cover_text(stock, cover):
    return lot_text(cover) + " = " + str(price_of(stock, cover))


def yes_or_no(truth):
    return "yes" if truth else "no"
