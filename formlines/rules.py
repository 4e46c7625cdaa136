"""Rules: which things are such, and what a rule names."""

from formlines.wholes import is_number, is_percent, is_place

DEEPEST = 8
LONGEST_WORD = 8
LETTERS = "abcdefghijklmnopqrstuvwxyz"

# The kinds of the parts that stand behind a rule's first word.
PARTS = {
    "number": ("number",),
    "paper": ("word",),
    "line": ("line",),
    "earlier": ("line",),
    "add": ("rule", "rule"),
    "take": ("rule", "rule"),
    "least": ("rule", "rule"),
    "most": ("rule", "rule"),
    "part": ("rule", "percent"),
    "table": ("table", "rule"),
    "where": ("rule", "rule", "rule"),
    "choose": ("choice", "rule", "rule"),
}


def is_rule(thing, lines, tables, choices):
    """True where a thing is a rule, by how many lines, tables and choices there are."""
    counts = {"line": lines, "table": tables, "choice": choices}
    return _is_rule_within(thing, counts, DEEPEST)


def is_word(thing):
    """True where a thing is a word that a paper can have."""
    if not isinstance(thing, str) or not 1 <= len(thing) <= LONGEST_WORD:
        return False
    for sign in thing:
        if sign not in LETTERS:
            return False
    return True


def named(rule, word):
    """What stands right behind a word anywhere in a rule: each once, rising."""
    return sorted(set(_behind(rule, word)))


def _is_rule_within(thing, counts, levels):
    # The levels that are left bound the recursion too, however deep the thing is.
    if levels == 0 or not _has_form(thing):
        return False
    for part, kind in zip(thing[1:], PARTS[thing[0]]):
        if not _is_part(part, kind, counts, levels):
            return False
    return True


def _has_form(thing):
    if not isinstance(thing, tuple) or not thing:
        return False
    word = thing[0]
    if not isinstance(word, str) or word not in PARTS:
        return False
    return len(thing) == 1 + len(PARTS[word])


def _is_part(part, kind, counts, levels):
    if kind == "rule":
        return _is_rule_within(part, counts, levels - 1)
    if kind == "number":
        return is_number(part)
    if kind == "percent":
        return is_percent(part)
    if kind == "word":
        return is_word(part)
    return is_place(part, counts[kind])


def _behind(rule, word):
    found = []
    if rule[0] == word:
        found.append(rule[1])
    for part, kind in zip(rule[1:], PARTS[rule[0]]):
        if kind == "rule":
            found.extend(_behind(part, word))
    return found
