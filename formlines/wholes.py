"""Whole numbers: which things are such, and hundredths of them."""

FARTHEST = 1000000000
FULL_PERCENT = 100


def is_whole(thing):
    """True where a thing is a whole number; a truth is none."""
    return isinstance(thing, int) and not isinstance(thing, bool)


def is_within(thing, low, high):
    """True where a thing is a whole number from low to high."""
    return is_whole(thing) and low <= thing <= high


def is_number(thing):
    """True where a thing is a number as it may stand in a rule, a table or a paper."""
    return is_within(thing, -FARTHEST, FARTHEST)


def is_percent(thing):
    """True where a thing is a percentage from none to all."""
    return is_within(thing, 0, FULL_PERCENT)


def is_place(thing, count):
    """True where a thing is one of the places 0, 1 and so on of so many."""
    # A count that is no whole number counts nothing, so nothing has a place by it.
    return is_whole(count) and is_within(thing, 0, count - 1)


def hundredths(number, percent):
    """Percent hundredths of a number, rounded down, towards below nought."""
    return number * percent // FULL_PERCENT
