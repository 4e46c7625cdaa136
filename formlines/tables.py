"""Tables: rows of (start, plus, percent), and what they tell at a number."""

from formlines.wholes import hundredths, is_number, is_percent

MOST_ROWS = 20
ROW_PARTS = 3


def is_table(thing):
    """True where a thing is a table."""
    if not isinstance(thing, tuple) or not 1 <= len(thing) <= MOST_ROWS:
        return False
    for row in thing:
        if not _is_row(row):
            return False
    return _starts_rise(thing)


def at_number(table, number):
    """What a table tells at a number: by the last row that starts no later, else 0."""
    told = 0
    for start, plus, percent in table:
        if start <= number:
            told = plus + hundredths(number - start, percent)
    return told


def _is_row(thing):
    if not isinstance(thing, tuple) or len(thing) != ROW_PARTS:
        return False
    start, plus, percent = thing
    return is_number(start) and is_number(plus) and is_percent(percent)


def _starts_rise(rows):
    for row, following in zip(rows, rows[1:]):
        if row[0] >= following[0]:
            return False
    return True
