"""What several tests need: forms drawn by a seed, and the document's points once more, as plainly as they stand there.

The answers below are found by trying everything out or straight by the definition, so that they share no way of
working with the program.
"""

import itertools
import random

FARTHEST = 1000000000
WORDS = ("a", "b", "wages", "abcdefgh")

# What is no number, word, year, line, choice or count. A truth is none, though Python takes it for 0 or 1.
ODD = (None, True, False, "", "1", "a b", (), [], (1,), [1], ("a",), ["a"], {}, ("number", 1), [[]], b"a")

BINARY = {
    "add": lambda one, other: one + other,
    "take": lambda one, other: one - other,
    "least": lambda one, other: one if one < other else other,
    "most": lambda one, other: one if one > other else other,
}


def number(n):
    return ("number", n)


def line(k):
    return ("line", k)


def earlier(k):
    return ("earlier", k)


def paper(word):
    return ("paper", word)


def add(*rules):
    """All these rules' sum, as one rule that is as flat as can be."""
    while len(rules) > 1:
        pairs = [rules[k:k + 2] for k in range(0, len(rules), 2)]
        rules = [("add",) + pair if len(pair) == 2 else pair[0] for pair in map(tuple, pairs)]
    return rules[0]


def naming(*lines):
    """A rule that names just these lines."""
    return add(*[line(k) for k in lines]) if lines else number(0)


def deep_list(depth):
    thing = []
    for _ in range(depth):
        thing = [thing]
    return thing


# Forms by a seed

def drawn_rule(rng, lines, count, tables, choices, deep):
    """A rule that names only some lines of its year, and any of the count lines of the year ahead."""
    leaves = ["number", "paper", "earlier"] + ["line"] * (2 if lines else 0)
    inner = list(BINARY) + ["part", "where"] + ["table"] * bool(tables) + ["choose"] * (2 * bool(choices))
    word = rng.choice(leaves if deep <= 1 or rng.random() < 0.3 else inner)
    def within():
        return drawn_rule(rng, lines, count, tables, choices, deep - 1)
    if word == "number":
        return (word, rng.randrange(-300, 300))
    if word == "paper":
        return (word, rng.choice(WORDS))
    if word == "line":
        return (word, rng.choice(lines))
    if word == "earlier":
        return (word, rng.randrange(count))
    if word == "part":
        return (word, within(), rng.choice((0, 1, 33, 50, 99, 100)))
    if word == "table":
        return (word, rng.randrange(tables), within())
    if word == "where":
        return (word, within(), within(), within())
    if word == "choose":
        return (word, rng.randrange(choices), within(), within())
    return (word, within(), within())


def drawn_table(rng):
    starts = sorted(rng.sample(range(-400, 400), rng.randrange(1, 5)))
    return tuple((start, rng.randrange(-200, 200), rng.randrange(101)) for start in starts)


def drawn_parts(rng, most_lines=6, most_choices=3):
    """What a form is made of, with no ring: its lines name only lines ahead of them in an order by chance."""
    count = rng.randrange(1, most_lines + 1)
    choices = rng.randrange(most_choices + 1)
    tables = [drawn_table(rng) for _ in range(rng.randrange(3))]
    order = list(range(count))
    rng.shuffle(order)
    lines = [None] * count
    for place, k in enumerate(order):
        lines[k] = drawn_rule(rng, order[:place], count, len(tables), choices, 4)
    return lines, tables, choices, rng.randrange(count)


def drawn_pairs(rng):
    words = rng.sample(WORDS + ("other",), rng.randrange(4))
    return [(word, rng.randrange(-300, 300)) for word in words]


def drawn_taken(rng, choices):
    return [rng.random() < 0.5 for _ in range(choices)]


def draws(seed, many):
    rng = random.Random(seed)
    return [random.Random(rng.random()) for _ in range(many)]


# The points once more

def behind(rule, word):
    """All that stands right behind a word in a rule (point 3)."""
    found = {rule[1]} if rule[0] == word else set()
    for part in rule[1:]:
        if isinstance(part, tuple):
            found |= behind(part, word)
    return found


def plain_table(table, at):
    rows = [row for row in table if row[0] <= at]
    return rows[-1][1] + (at - rows[-1][0]) * rows[-1][2] // 100 if rows else 0


def plain_value(form, years, taken, year, k):
    """A line's value in a year, by its definition alone (points 3 and 7)."""
    def of(rule):
        word = rule[0]
        if word == "number":
            return rule[1]
        if word == "paper":
            return dict(years[year]).get(rule[1], 0)
        if word == "line":
            return plain_value(form, years, taken, year, rule[1])
        if word == "earlier":
            return plain_value(form, years, taken, year - 1, rule[1]) if year else 0
        if word == "part":
            return of(rule[1]) * rule[2] // 100
        if word == "table":
            return plain_table(form[1][rule[1]], of(rule[2]))
        if word == "where":
            return of(rule[2]) if of(rule[1]) > 0 else of(rule[3])
        if word == "choose":
            return of(rule[3]) if taken[year][rule[1]] else of(rule[2])
        return BINARY[word](of(rule[1]), of(rule[2]))
    return of(form[0][k])


def plain_history(form, years, taken):
    return [[plain_value(form, years, taken, year, k) for k in range(len(form[0]))] for year in range(len(years))]


def plain_rings(lines):
    """All rings of some few lines, by trying all lists of unlike lines out (point 5)."""
    names = [behind(rule, "line") for rule in lines]
    rings = []
    for many in range(1, len(lines) + 1):
        for ring in itertools.permutations(range(len(lines)), many):
            if all(after in names[before] for before, after in zip(ring, ring[1:] + ring[:1])):
                rings.append(list(ring))
    return rings


def plain_ring(lines):
    rings = plain_rings(lines)
    return min(rings, key=lambda ring: (len(ring), ring)) if rings else []


def plain_order(lines):
    """The least of all orders in which each line stands behind those that it names (point 6)."""
    names = [behind(rule, "line") for rule in lines]
    for order in itertools.permutations(range(len(lines))):
        if all(names[k] <= set(order[:place]) for place, k in enumerate(order)):
            return list(order)
    return None


def plain_hanging(form, count, year, word, thing):
    """All that hangs on a paper or a choice, by its definition alone (point 8)."""
    def hangs(now, k):
        rule = form[0][k]
        return now >= 0 and (
            (now == year and thing in behind(rule, word))
            or any(hangs(now, other) for other in behind(rule, "line"))
            or any(hangs(now - 1, other) for other in behind(rule, "earlier"))
        )
    return [(now, k) for now in range(count) for k in range(len(form[0])) if hangs(now, k)]


def all_choices(choices, years):
    """All choices of so many years in their order (point 9), as counted in twos."""
    many = choices * years
    found = []
    for at in range(2 ** many):
        truths = [bool(at >> (many - 1 - place) & 1) for place in range(many)]
        found.append(tuple(tuple(truths[choices * year:choices * (year + 1)]) for year in range(years)))
    return found
