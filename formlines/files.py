"""Files: the papers and choices that come to a form, year by year."""

from formlines.errors import NoChoice, NoForm, NoLine, NoPaper, NoYear
from formlines.forms import CHOICES, LINES, OWED, order_of
from formlines.reckoning import history, is_paper, lines_of
from formlines.wholes import is_place, is_within

MOST_YEARS = 8


class File:
    """A form with its papers and choices in so many years, and what its lines come to by them."""

    def __init__(self, form, count):
        if not is_within(count, 1, MOST_YEARS):
            raise NoForm("a file can't have so many years")
        self._form = form
        self._order = order_of(form)
        self._papers = [{} for _ in range(count)]
        self._taken = [[False] * form[CHOICES] for _ in range(count)]
        self._lines = history(form, [[] for _ in range(count)], self._taken)

    def put(self, year, word, number):
        """A paper comes to a year, or another number for it: the pairs (year, line) whose values are others now."""
        self._need_year(year)
        if not is_paper(word, number):
            raise NoPaper("a paper's word or number can't be one")
        self._papers[year][word] = number
        return self._reckon_from(year)

    def take(self, year, choice, taken):
        """A choice of a year is taken or not: the pairs (year, line) whose values are others now."""
        self._need_year(year)
        if not is_place(choice, self._form[CHOICES]) or not isinstance(taken, bool):
            raise NoChoice("there is no such choice")
        self._taken[year][choice] = taken
        return self._reckon_from(year)

    def values(self, year):
        """All lines' values in a year."""
        self._need_year(year)
        return list(self._lines[year])

    def value(self, year, line):
        """A line's value in a year."""
        self._need_year(year)
        if not is_place(line, len(self._form[LINES])):
            raise NoLine("there is no such line")
        return self._lines[year][line]

    def owed(self):
        """What the owed line comes to, in all years together."""
        return sum(lines[self._form[OWED]] for lines in self._lines)

    def told(self, year):
        """What a year was told: its papers, rising by word, and which choices are taken."""
        self._need_year(year)
        return (sorted(self._papers[year].items()), list(self._taken[year]))

    def _need_year(self, year):
        if not is_place(year, len(self._papers)):
            raise NoYear("there is no such year")

    def _reckon_from(self, year):
        changed = []
        earlier = self._lines[year - 1] if year > 0 else []
        for now in range(year, len(self._papers)):
            before = self._lines[now]
            lines = lines_of(self._form, self._order, self._papers[now], earlier, self._taken[now])
            changed.extend([(now, line) for line, number in enumerate(lines) if number != before[line]])
            self._lines[now] = lines
            earlier = lines
        return changed
