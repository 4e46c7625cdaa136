"""Choices: what is owed by each of them, and by which the least is owed."""

from formlines.errors import TooMany
from formlines.forms import CHOICES, OWED, order_of
from formlines.reckoning import lines_of, papers_of

MOST_IN_ALL = 8


def sums(form, years):
    """All choices of some years in their order, each with what is owed by it: a list of pairs (choices, sum)."""
    if form[CHOICES] * len(years) > MOST_IN_ALL:
        raise TooMany("there are too many choices in all years together")
    order = order_of(form)
    found = [((), 0, [])]
    for papers in [papers_of(pairs) for pairs in years]:
        found = _with_a_year_more(form, order, papers, found)
    return [(choices, total) for choices, total, _ in found]


def least(form, years):
    """The first choices of some years by which the least is owed, with that sum."""
    return min(sums(form, years), key=lambda pair: pair[1])


def _with_a_year_more(form, order, papers, found):
    # Choices that are alike up to a year share its lines, so that these are reckoned once for all of them.
    longer = []
    for choices, total, earlier in found:
        for row in _rows(form[CHOICES]):
            lines = lines_of(form, order, papers, earlier, row)
            longer.append((choices + (row,), total + lines[form[OWED]], lines))
    return longer


def _rows(count):
    """All tuples of so many truths, the first truth changing last."""
    rows = [()]
    for _ in range(count):
        rows = [row + (truth,) for row in rows for truth in (False, True)]
    return rows
