"""Kinds that all modules share: whole numbers, pairs, rising tuples, fractions (top, bottom)."""


def is_whole(thing):
    # Python counts True and False as ints, the document does not.
    return isinstance(thing, int) and not isinstance(thing, bool)


def is_pair(thing):
    return isinstance(thing, tuple) and len(thing) == 2


def is_rising(thing, bound):
    # A number is compared only once it is known to be one: a text or a list there would raise.
    if not isinstance(thing, tuple):
        return False
    least = 0
    for number in thing:
        if not is_whole(number) or number < least or number >= bound:
            return False
        least = number + 1
    return True


def reduced(top, bottom):
    shared = greatest_divisor(top, bottom)
    return (top // shared, bottom // shared)


def greatest_divisor(top, bottom):
    one = top
    other = bottom
    while other > 0:
        rest = one % other
        one = other
        other = rest
    return one


def is_less(fraction, other):
    return fraction[0] * other[1] < other[0] * fraction[1]


def is_fraction(thing):
    if not is_pair(thing) or not is_whole(thing[0]) or not is_whole(thing[1]):
        return False
    return thing[1] > 0 and greatest_divisor(thing[0], thing[1]) == 1


def together(fractions):
    top = 0
    bottom = 1
    for fraction in fractions:
        top = top * fraction[1] + fraction[0] * bottom
        bottom = bottom * fraction[1]
    return reduced(top, bottom)
