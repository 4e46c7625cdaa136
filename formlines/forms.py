"""Forms: what they are made of, the rings of their lines, and the order of their lines."""

from heapq import heappop, heappush

from formlines.errors import NoForm, NoRule, NoTable, Ring
from formlines.rules import is_rule, named
from formlines.tables import is_table
from formlines.wholes import is_place, is_within

MOST_LINES = 40
MOST_TABLES = 5
MOST_CHOICES = 8

# Where each part of a form stands in it.
LINES = 0
TABLES = 1
CHOICES = 2
OWED = 3


def form_of(lines, tables, choices, owed):
    """A form of a list of lines, a list of tables, how many choices there are, and the line that is owed."""
    _need_tables(tables)
    _need_sizes(lines, choices, owed)
    _need_rules(lines, len(tables), choices)
    if ring_of(lines):
        raise Ring("a line names itself in the same year")
    return (tuple(lines), tuple(tables), choices, owed)


def ring_of(lines):
    """The shortest ring of a list of rules, of several as short the least list; [] where there is none."""
    names = _lines_named(lines)
    shortest = []
    for first in range(len(names)):
        ring = _ring_from(names, first)
        if ring and (not shortest or len(ring) < len(shortest)):
            shortest = ring
    return shortest


def order_of(form):
    """All lines of a form, each behind those that it names, at each place the least that can stand there."""
    names = _lines_named(form[LINES])
    waits = [len(row) for row in names]
    # These rise, so they are a heap as they stand.
    ready = [line for line, many in enumerate(waits) if many == 0]
    order = []
    while ready:
        line = heappop(ready)
        order.append(line)
        for other, row in enumerate(names):
            if line in row:
                waits[other] -= 1
                if waits[other] == 0:
                    heappush(ready, other)
    return order


def _need_tables(tables):
    if len(tables) > MOST_TABLES:
        raise NoTable("there are too many tables")
    for table in tables:
        if not is_table(table):
            raise NoTable("one of the tables is none")


def _need_sizes(lines, choices, owed):
    if not is_within(len(lines), 1, MOST_LINES):
        raise NoForm("there are too few or too many lines")
    if not is_within(choices, 0, MOST_CHOICES):
        raise NoForm("there can't be so many choices")
    if not is_place(owed, len(lines)):
        raise NoForm("the line that is owed is none")


def _need_rules(lines, tables, choices):
    for rule in lines:
        if not is_rule(rule, len(lines), tables, choices):
            raise NoRule("one of the lines is no rule")


def _lines_named(lines):
    # Rules that make no form may name lines that there are not: none of these is in a ring.
    return [[line for line in named(rule, "line") if is_place(line, len(lines))] for rule in lines]


def _ring_from(names, first):
    # The shorter path comes ahead, of two as short the lesser one, so the first path that closes is the ring.
    paths = [[first]]
    reached = {first: True}
    while paths:
        path = paths.pop(0)
        for line in names[path[-1]]:
            if line == first:
                return path
            if line not in reached:
                reached[line] = True
                paths.append(path + [line])
    return []
