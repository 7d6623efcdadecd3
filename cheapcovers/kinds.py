"""Kinds that all modules look for in what they are handed: whole numbers, pairs, rising tuples."""


def is_whole(thing):
    # Python counts True and False as ints, the document does not.
    return isinstance(thing, int) and not isinstance(thing, bool)


def is_pair(thing):
    return isinstance(thing, tuple) and len(thing) == 2


def is_rising(thing, bound):
    # A number is compared only once it is known to be one: a text or a list there would raise.
    if not isinstance(thing, tuple):
        return False
    least = 0
    for number in thing:
        if not is_whole(number) or number < least or number >= bound:
            return False
        least = number + 1
    return True
