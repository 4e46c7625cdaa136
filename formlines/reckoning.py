"""Years: what all lines come to, and which of them hang on a paper or on a choice."""

from formlines.errors import NoChoice, NoPaper
from formlines.forms import CHOICES, LINES, TABLES, order_of
from formlines.rules import is_word, named
from formlines.tables import at_number
from formlines.wholes import hundredths, is_number, is_place


class Sheet:
    """What the rules of one year are reckoned by; its lines are filled in one by one."""

    def __init__(self, form, papers, earlier, taken):
        self.tables = form[TABLES]
        self.papers = papers
        self.earlier = earlier
        self.taken = taken
        self.lines = [0] * len(form[LINES])


def reckoned(form, pairs, earlier, taken):
    """All lines' values in a year, by its papers, the lines of the year ahead ([] for none) and the choices taken."""
    return _year_of(form, order_of(form), pairs, earlier, taken)


def history(form, years, taken):
    """The lines' values of years one behind the other, by each year's papers and choices taken."""
    order = order_of(form)
    told = []
    earlier = []
    for year, pairs in enumerate(years):
        earlier = _year_of(form, order, pairs, earlier, taken[year])
        told.append(earlier)
    return told


def hanging(form, count, year, word):
    """The pairs (year, line) that hang on a paper of a year, for so many years."""
    return _hanging_on(form, count, year, _naming(form, "paper", [word]))


def hanging_choice(form, count, year, choice):
    """The pairs (year, line) that hang on a choice of a year, for so many years."""
    # A truth equals the number 0 or 1, but it is no choice.
    if not is_place(choice, form[CHOICES]):
        return []
    return _hanging_on(form, count, year, _naming(form, "choose", [choice]))


def is_paper(word, number):
    """True where a paper can have such a word and such a number."""
    return is_word(word) and is_number(number)


def papers_of(pairs):
    """The number of each paper by its word."""
    papers = {}
    for word, number in pairs:
        if not is_paper(word, number):
            raise NoPaper("a paper's word or number can't be one")
        if word in papers:
            raise NoPaper("two papers have one word")
        papers[word] = number
    return papers


def lines_of(form, order, papers, earlier, taken):
    """All lines' values, by the form's order and what is known to be papers and choices."""
    sheet = Sheet(form, papers, earlier, taken)
    for line in order:
        sheet.lines[line] = _worth(form[LINES][line], sheet)
    return sheet.lines


def _year_of(form, order, pairs, earlier, taken):
    papers = papers_of(pairs)
    _need_choices(form, taken)
    return lines_of(form, order, papers, earlier, taken)


def _need_choices(form, taken):
    if not isinstance(taken, (list, tuple)) or len(taken) != form[CHOICES]:
        raise NoChoice("there is not one truth for each choice")
    for truth in taken:
        if not isinstance(truth, bool):
            raise NoChoice("a choice is taken or not by a truth")


def _worth(rule, sheet):
    match rule:
        case ("number", number):
            return number
        case ("paper", word):
            return sheet.papers.get(word, 0)
        case ("line", line):
            return sheet.lines[line]
        case ("earlier", line):
            return sheet.earlier[line] if sheet.earlier else 0
        case ("part", one, percent):
            return hundredths(_worth(one, sheet), percent)
        case ("table", table, one):
            return at_number(sheet.tables[table], _worth(one, sheet))
        case ("where", one, other, third):
            return _worth(other if _worth(one, sheet) > 0 else third, sheet)
        case ("choose", choice, one, other):
            return _worth(other if sheet.taken[choice] else one, sheet)
        case (word, one, other):
            return _of_both(word, _worth(one, sheet), _worth(other, sheet))


def _of_both(word, one, other):
    if word == "add":
        return one + other
    if word == "take":
        return one - other
    if word == "least":
        return min(one, other)
    return max(one, other)


def _hanging_on(form, count, year, naming):
    if not is_place(year, count):
        return []
    order = order_of(form)
    told = []
    hung = naming
    for now in range(year, count):
        hung = _with_naming(form, order, hung)
        # Behind a year in which nothing hangs, nothing does.
        if not hung:
            break
        told.extend([(now, line) for line in hung])
        hung = _naming(form, "earlier", hung)
    return told


def _naming(form, word, things):
    """The lines whose rules have one of these things behind a word."""
    return [line for line, rule in enumerate(form[LINES]) if any(thing in things for thing in named(rule, word))]


def _with_naming(form, order, lines):
    """These lines and all lines of their year that name one of them, through others or not, rising."""
    hung = list(lines)
    for line in order:
        if line not in hung and any(other in hung for other in named(form[LINES][line], "line")):
            hung.append(line)
    return sorted(hung)
