"""Texts of stocks, lots and fractions, and stocks and lots read from them."""

from cheapcovers.errors import NoText
from cheapcovers.stocks import is_stock

FIGURES = "0123456789"
MOST_FIGURES = 40


def stock_text(stock):
    return " ".join([str(stock[0]), ":"] + [offer_text(offer) for offer in stock[1]])


def lot_text(lot):
    return " ".join([str(number) for number in lot]) if lot else "none"


def fraction_text(fraction):
    top = str(fraction[0])
    return top if fraction[1] == 1 else top + "/" + str(fraction[1])


def stock_read(text):
    need_text(text)
    words = text.split(" ")
    if len(words) < 2 or words[1] != ":":
        raise NoText("no colon behind the number of things")
    stock = (number_read(words[0]), tuple([offer_read(word) for word in words[2:]]))
    if not is_stock(stock):
        raise NoText("the text of no stock")
    return stock


def lot_read(text):
    need_text(text)
    return () if text == "none" else rising_read(text, " ")


def offer_text(offer):
    return ",".join([str(thing) for thing in offer[0]]) + "=" + str(offer[1])


def need_text(text):
    if not isinstance(text, str):
        raise NoText("not a text")


def offer_read(word):
    parts = word.split("=")
    if len(parts) != 2:
        raise NoText("not things and a price with = between")
    return (rising_read(parts[0], ","), number_read(parts[1]))


def rising_read(text, between):
    numbers = [number_read(word) for word in text.split(between)]
    if numbers != sorted(set(numbers)):
        raise NoText("numbers that do not rise")
    return tuple(numbers)


def number_read(word):
    if not is_number_text(word):
        raise NoText("not a number in figures, forty at most, without a nought ahead")
    return int(word)


def is_number_text(word):
    # The length is looked at ahead of the rest, so that no long word is gone through or made a number.
    if len(word) < 1 or len(word) > MOST_FIGURES:
        return False
    return all([sign in FIGURES for sign in word]) and (word == "0" or word[0] != "0")
