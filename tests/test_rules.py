"""Point 3: what a rule is, and what it names."""

import copy
import itertools
import unittest

from formlines.rules import is_rule, named

FARTHEST = 1000000000
LINES, TABLES, CHOICES = 5, 3, 2

ONE = ("number", 1)
TWO = ("paper", "wages")

# Each of the twelve forms, once.
FORMS = (
    ("number", 7),
    ("paper", "wages"),
    ("line", 4),
    ("earlier", 4),
    ("add", ONE, TWO),
    ("take", ONE, TWO),
    ("least", ONE, TWO),
    ("most", ONE, TWO),
    ("part", ONE, 50),
    ("table", 2, ONE),
    ("where", ONE, TWO, ONE),
    ("choose", 1, ONE, TWO),
)

# Each form that holds rules, and each place in it where one stands.
PLACES = (
    ("add", 1), ("add", 2), ("take", 1), ("take", 2), ("least", 1), ("least", 2), ("most", 1), ("most", 2),
    ("part", 1), ("table", 2), ("where", 1), ("where", 2), ("where", 3), ("choose", 2), ("choose", 3),
)

# What can stand in no place of a rule behind its first word.
ODD = (None, True, False, "", (), [], [0], ["number", 1], [ONE], (0,), ("number",))


def form_named(word):
    for form in FORMS:
        if form[0] == word:
            return form
    raise KeyError(word)


def with_part(rule, at, part):
    return rule[:at] + (part,) + rule[at + 1:]


def deepened(rule, word, at, times):
    for _ in range(times):
        rule = with_part(form_named(word), at, rule)
    return rule


class RuleTest(unittest.TestCase):
    def check(self, thing, expected, lines=LINES, tables=TABLES, choices=CHOICES):
        before = copy.deepcopy(thing)
        self.assertIs(is_rule(thing, lines, tables, choices), expected, thing)
        self.assertIs(is_rule(thing, lines, tables, choices), expected, thing)
        self.assertEqual(thing, before)


class TestForms(RuleTest):
    def test_each_form_is_a_rule(self):
        self.assertEqual(len(FORMS), 12)
        for form in FORMS:
            with self.subTest(form=form):
                self.check(form, True)

    def test_each_form_with_a_part_too_few(self):
        for form in FORMS:
            for at in range(len(form)):
                with self.subTest(form=form, at=at):
                    self.check(form[:at] + form[at + 1:], False)

    def test_the_first_word_alone(self):
        for form in FORMS:
            with self.subTest(form=form):
                self.check(form[:1], False)
                self.check(form[0], False)

    def test_each_form_with_a_part_too_many(self):
        for form in FORMS:
            for more in (ONE, 1, "wages", None):
                with self.subTest(form=form, more=more):
                    self.check(form + (more,), False)
            with self.subTest(form=form):
                self.check(form + form[-1:], False)

    def test_each_form_with_its_parts_the_other_way_round(self):
        for form in (("part", 50, ONE), ("table", ONE, 2), ("choose", ONE, 1, TWO), ("choose", ONE, TWO, 1)):
            with self.subTest(form=form):
                self.check(form, False)

    def test_an_unknown_word(self):
        for form in FORMS:
            for word in ("", "sum", "Add", "ADD", "add ", " add", "add\n", "numbers", "rule", "minus"):
                with self.subTest(form=form, word=word):
                    self.check((word,) + form[1:], False)

    def test_the_word_of_each_other_form(self):
        shapes = {"number": "n", "paper": "w", "line": "n", "earlier": "n", "add": "rr", "take": "rr", "least": "rr",
                  "most": "rr", "part": "rn", "table": "nr", "where": "rrr", "choose": "nrr"}
        small = {"n": 1, "w": "wages", "r": ONE}
        for word, other in itertools.product(shapes, repeat=2):
            thing = (word,) + tuple(small[sign] for sign in shapes[other])
            with self.subTest(thing=thing):
                self.check(thing, shapes[word] == shapes[other])

    def test_a_list_in_place_of_the_tuple(self):
        for form in FORMS:
            with self.subTest(form=form):
                self.check(list(form), False)

    def test_something_odd_in_place_of_the_first_word(self):
        for form in FORMS:
            for odd in ODD + (0, 1, form[:1], [form[0]]):
                with self.subTest(form=form, odd=odd):
                    self.check((odd,) + form[1:], False)

    def test_something_odd_in_place_of_each_part(self):
        for form in FORMS:
            for at in range(1, len(form)):
                for odd in ODD:
                    with self.subTest(form=form, at=at, odd=odd):
                        self.check(with_part(form, at, odd), False)

    def test_a_text_in_place_of_each_part_but_a_papers_word(self):
        for form in FORMS:
            for at in range(1, len(form)):
                for text in ("a", "1", "number", "wages"):
                    with self.subTest(form=form, at=at, text=text):
                        self.check(with_part(form, at, text), form[0] == "paper" and text != "1")

    def test_a_number_or_a_word_in_place_of_a_rule(self):
        for word, at in PLACES:
            for odd in (0, 1, -1, 50, "wages", "number", list(ONE)):
                with self.subTest(word=word, at=at, odd=odd):
                    self.check(with_part(form_named(word), at, odd), False)

    def test_a_rule_in_place_of_a_number(self):
        for form in FORMS:
            for at in range(1, len(form)):
                if isinstance(form[at], (int, str)):
                    with self.subTest(form=form, at=at):
                        self.check(with_part(form, at, ONE), False)

    def test_a_thing_that_is_no_tuple_at_all(self):
        for thing in (None, True, False, 0, 1, -1, 10 ** 30, "", "add", "number", [], [1], [ONE], [[]]):
            with self.subTest(thing=thing):
                self.check(thing, False)

    def test_tuples_that_are_no_rules(self):
        for thing in ((), ((),), (1, 2), (None,), (True, 1), (ONE,), (ONE, ONE), ((0, 0, 0),), ([], [])):
            with self.subTest(thing=thing):
                self.check(thing, False)


class TestParts(RuleTest):
    def test_a_number_at_the_bounds(self):
        for number in (-FARTHEST, -FARTHEST + 1, -1, 0, 1, FARTHEST - 1, FARTHEST):
            with self.subTest(number=number):
                self.check(("number", number), True)
                self.check(("add", ONE, ("number", number)), True)

    def test_a_number_beyond_the_bounds(self):
        for number in (-FARTHEST - 1, FARTHEST + 1, -10 ** 30, 10 ** 30):
            with self.subTest(number=number):
                self.check(("number", number), False)
                self.check(("add", ONE, ("number", number)), False)

    def test_a_number_needs_nothing_to_be_counted(self):
        self.check(("number", FARTHEST), True, 0, 0, 0)
        self.check(("paper", "wages"), True, 0, 0, 0)

    def test_words_of_each_length(self):
        for length in range(1, 9):
            with self.subTest(length=length):
                self.check(("paper", "abcdefgh"[:length]), True)
        for word in ("", "abcdefghi", "abcdefghij", "a" * 100):
            with self.subTest(word=word):
                self.check(("paper", word), False)

    def test_each_letter(self):
        for letter in "abcdefghijklmnopqrstuvwxyz":
            with self.subTest(letter=letter):
                self.check(("paper", letter), True)
                self.check(("paper", "ab" + letter), True)
                self.check(("paper", letter.upper()), False)

    def test_each_sign_that_is_no_letter(self):
        signs = [chr(k) for k in range(32, 127)] + ["\n", "\t", "\r", "\r\n"]
        for sign in signs:
            if not "a" <= sign <= "z":
                for word in (sign, "ab" + sign, sign + "ab", "a" + sign + "b"):
                    with self.subTest(word=word):
                        self.check(("paper", word), False)

    def test_a_word_may_be_the_word_of_a_form(self):
        for form in FORMS:
            with self.subTest(word=form[0]):
                self.check(("paper", form[0]), True)

    def test_something_odd_as_a_word(self):
        for odd in (0, 1, ("a",), ["a"], ["a", "b"], ("a", "b"), None, True):
            with self.subTest(odd=odd):
                self.check(("paper", odd), False)

    def check_places(self, count, made, counts_of):
        for k in range(count):
            self.check(made(k), True, *counts_of(count))
        for k in (-1, -2, -count, -count - 1, count, count + 1, 10 ** 30, -10 ** 30):
            if k:
                self.check(made(k), False, *counts_of(count))
        self.check(made(True), False, *counts_of(count))
        self.check(made(False), False, *counts_of(count))

    def test_a_line_that_there_is_or_not(self):
        for count in (0, 1, 2, 5, 40):
            for made in (lambda k: ("line", k), lambda k: ("earlier", k), lambda k: ("add", ONE, ("line", k))):
                with self.subTest(count=count):
                    self.check_places(count, made, lambda many: (many, 0, 0))
                    self.check_places(count, made, lambda many: (many, 99, 99))
        for word in ("line", "earlier"):
            self.check((word, 0), False, 0, 99, 99)

    def test_a_table_that_there_is_or_not(self):
        for count in (0, 1, 2, 5):
            for made in (lambda k: ("table", k, ONE), lambda k: ("part", ("table", k, ONE), 5)):
                with self.subTest(count=count):
                    self.check_places(count, made, lambda many: (0, many, 0))
                    self.check_places(count, made, lambda many: (99, many, 99))
        self.check(("table", 0, ONE), False, 99, 0, 99)

    def test_a_choice_that_there_is_or_not(self):
        for count in (0, 1, 2, 8):
            for made in (lambda k: ("choose", k, ONE, TWO), lambda k: ("most", ("choose", k, ONE, TWO), ONE)):
                with self.subTest(count=count):
                    self.check_places(count, made, lambda many: (0, 0, many))
                    self.check_places(count, made, lambda many: (99, 99, many))
        self.check(("choose", 0, ONE, TWO), False, 99, 99, 0)

    def test_what_stands_within_is_counted_alike(self):
        for word, at in PLACES:
            outer = form_named(word)
            for inner, expected in (
                (("line", 4), True), (("line", 5), False), (("earlier", 4), True), (("earlier", 5), False),
                (("table", 2, ONE), True), (("table", 3, ONE), False),
                (("choose", 1, ONE, ONE), True), (("choose", 2, ONE, ONE), False),
            ):
                with self.subTest(word=word, at=at, inner=inner):
                    self.check(with_part(outer, at, inner), expected)

    def test_a_count_that_is_no_number_counts_nothing(self):
        for count in (None, True, False, "5", "", (), [], (5,), [5], -1, -10 ** 30):
            with self.subTest(count=count):
                self.check(("line", 0), False, count, 5, 5)
                self.check(("earlier", 0), False, count, 5, 5)
                self.check(("table", 0, ONE), False, 5, count, 5)
                self.check(("choose", 0, ONE, TWO), False, 5, 5, count)

    def test_a_percentage(self):
        for percent in (0, 1, 50, 99, 100):
            with self.subTest(percent=percent):
                self.check(("part", ONE, percent), True)
                self.check(("part", ("part", ONE, percent), 1), True)
        for percent in (-FARTHEST, -100, -1, 101, 102, 200, FARTHEST):
            with self.subTest(percent=percent):
                self.check(("part", ONE, percent), False)
                self.check(("part", ("part", ONE, percent), 1), False)

    def test_a_truth_is_none_even_where_its_like_has_just_been_asked(self):
        for form, at in ((ONE, 1), (("line", 1), 1), (("earlier", 1), 1), (("part", ONE, 1), 2),
                         (("table", 1, ONE), 1), (("choose", 1, ONE, TWO), 1)):
            with self.subTest(form=form):
                self.check(form, True)
                self.check(with_part(form, at, True), False)
                self.check(with_part(form, at, 0), True)
                self.check(with_part(form, at, False), False)
                self.check(form, True)


class TestDepth(RuleTest):
    def test_eight_deep_and_nine_deep_in_each_place(self):
        for word, at in PLACES:
            for within in FORMS[:4]:
                for times in range(1, 8):
                    with self.subTest(word=word, at=at, times=times, within=within):
                        self.check(deepened(within, word, at, times), True)
                for times in (8, 9, 10, 20):
                    with self.subTest(word=word, at=at, times=times, within=within):
                        self.check(deepened(within, word, at, times), False)

    def test_a_rule_that_holds_rules_counts_from_its_deepest(self):
        for word, at in PLACES:
            self.check(deepened(("add", ONE, TWO), word, at, 6), True)
            self.check(deepened(("add", ONE, TWO), word, at, 7), False)

    def test_places_of_all_forms_in_one_another(self):
        for start in range(len(PLACES)):
            rule = ONE
            for step in range(7):
                word, at = PLACES[(start + step) % len(PLACES)]
                rule = with_part(form_named(word), at, rule)
            with self.subTest(start=start):
                self.check(rule, True)
                for word, at in PLACES:
                    self.check(with_part(form_named(word), at, rule), False)

    def test_many_rules_side_by_side_are_not_deep(self):
        rule = ONE
        for _ in range(7):
            rule = ("where", rule, rule, rule)
        self.check(rule, True)
        self.check(("where", ONE, ONE, rule), False)

    def test_things_several_hundred_deep_in_each_place(self):
        for word, at in PLACES:
            for times in (300, 600, 900):
                for within in (ONE, 0, None, [], ("unknown",)):
                    self.assertIs(is_rule(deepened(within, word, at, times), LINES, TABLES, CHOICES), False)

    def test_things_several_hundred_deep_in_all_places(self):
        thing = ONE
        for _ in range(600):
            thing = ("where", thing, thing, thing)
        self.assertIs(is_rule(thing, LINES, TABLES, CHOICES), False)

    def test_tuples_and_lists_several_hundred_deep(self):
        for times in (300, 600, 900):
            in_tuples, in_lists, in_words = 0, 0, 0
            for _ in range(times):
                in_tuples, in_lists, in_words = (in_tuples,), [in_lists], ("number", in_words)
            for deep in (in_tuples, in_lists, in_words):
                self.assertIs(is_rule(deep, LINES, TABLES, CHOICES), False)
                for form in FORMS:
                    for at in range(len(form)):
                        self.assertIs(is_rule(with_part(form, at, deep), LINES, TABLES, CHOICES), False)

    def test_small_things_of_all_kinds_raise_nothing(self):
        atoms = ("number", "paper", "line", "add", "part", "table", None, True, 0, (), [], ONE)
        rules = [
            ("number", 0), ("line", 0), ("add", ONE, ONE), ("part", ONE, 0), ("table", 0, ONE),
        ] + [("paper", word) for word in atoms[:6]]
        for length in range(4):
            for thing in itertools.product(atoms, repeat=length):
                expected = any(same_rule(thing, rule) for rule in rules)
                self.assertIs(is_rule(thing, LINES, TABLES, CHOICES), expected, thing)


def same_rule(thing, rule):
    # False == 0 and True == 1 in Python, but a truth is no number.
    return thing == rule and not any(isinstance(part, bool) for part in thing)


class TestNamed(unittest.TestCase):
    RULE = (
        "where",
        ("choose", 3, ("add", ("line", 9), ("paper", "wages")), ("table", 2, ("earlier", 7))),
        ("take", ("table", 0, ("paper", "rent")), ("choose", 1, ("line", 2), ("earlier", 4))),
        ("part", ("most", ("line", 9), ("least", ("paper", "aid"), ("table", 2, ("number", 5)))), 30),
    )

    def check(self, rule, word, expected):
        told = named(rule, word)
        self.assertIsInstance(told, list)
        self.assertEqual(told, expected, (rule, word))

    def test_each_word_of_a_large_rule(self):
        self.check(self.RULE, "line", [2, 9])
        self.check(self.RULE, "earlier", [4, 7])
        self.check(self.RULE, "paper", ["aid", "rent", "wages"])
        self.check(self.RULE, "table", [0, 2])
        self.check(self.RULE, "choose", [1, 3])

    def test_a_rule_of_one_alone(self):
        self.check(("line", 3), "line", [3])
        self.check(("line", 0), "line", [0])
        self.check(("earlier", 3), "earlier", [3])
        self.check(("paper", "wages"), "paper", ["wages"])
        self.check(("table", 1, ONE), "table", [1])
        self.check(("choose", 1, ONE, TWO), "choose", [1])

    def test_nothing_is_named(self):
        for word in ("line", "earlier", "paper", "table", "choose"):
            with self.subTest(word=word):
                self.check(("number", 5), word, [])
                self.check(("where", ONE, ("number", 2), ("add", ONE, ONE)), word, [])
                self.check(("part", ONE, 3), word, [])

    def test_line_and_earlier_are_kept_apart(self):
        self.check(("line", 3), "earlier", [])
        self.check(("earlier", 3), "line", [])
        rule = ("add", ("line", 1), ("earlier", 2))
        self.check(rule, "line", [1])
        self.check(rule, "earlier", [2])

    def test_a_table_and_a_choice_and_a_line_of_one_number_are_kept_apart(self):
        rule = ("choose", 1, ("table", 2, ("line", 3)), ("earlier", 4))
        for word, expected in (("choose", [1]), ("table", [2]), ("line", [3]), ("earlier", [4]), ("paper", [])):
            with self.subTest(word=word):
                self.check(rule, word, expected)

    def test_each_once(self):
        self.check(("add", ("line", 2), ("line", 2)), "line", [2])
        self.check(("add", ("paper", "a"), ("most", ("paper", "a"), ("paper", "a"))), "paper", ["a"])
        self.check(("table", 1, ("table", 1, ("table", 1, ONE))), "table", [1])
        self.check(("choose", 0, ("choose", 0, ONE, ONE), ("choose", 0, ONE, ONE)), "choose", [0])

    def test_rising(self):
        numbers = ("add", ("add", ("line", 10), ("line", 9)), ("add", ("line", 2), ("line", 30)))
        self.check(numbers, "line", [2, 9, 10, 30])
        words = ("add", ("add", ("paper", "b"), ("paper", "ab")), ("add", ("paper", "z"), ("paper", "a")))
        self.check(words, "paper", ["a", "ab", "b", "z"])
        earlier = ("take", ("earlier", 39), ("take", ("earlier", 5), ("earlier", 20)))
        self.check(earlier, "earlier", [5, 20, 39])
        self.check(("table", 4, ("table", 0, ("table", 3, ONE))), "table", [0, 3, 4])
        self.check(("choose", 7, ("choose", 0, ONE, ONE), ("choose", 5, ONE, ONE)), "choose", [0, 5, 7])

    def test_each_place_of_each_form(self):
        for word, inner, expected in (
            ("line", ("line", 4), [4]), ("earlier", ("earlier", 4), [4]), ("paper", ("paper", "aid"), ["aid"]),
            ("table", ("table", 2, ONE), [2]), ("choose", ("choose", 1, ONE, ONE), [1]),
        ):
            for outer, at in PLACES:
                held = with_part(tuple(ONE if isinstance(p, tuple) else p for p in form_named(outer)), at, inner)
                both = sorted({held[1], *expected}) if outer == word else expected
                with self.subTest(word=word, outer=outer, at=at):
                    self.check(held, word, both)

    def test_all_three_of_a_where(self):
        self.check(("where", ("line", 3), ("line", 1), ("line", 2)), "line", [1, 2, 3])
        self.check(("where", ("number", 0), ("line", 1), ("line", 2)), "line", [1, 2])
        self.check(("where", ("number", 1), ("paper", "b"), ("paper", "a")), "paper", ["a", "b"])

    def test_both_of_a_choose(self):
        self.check(("choose", 0, ("line", 3), ("line", 1)), "line", [1, 3])
        self.check(("choose", 0, ("paper", "b"), ("paper", "a")), "paper", ["a", "b"])

    def test_what_cannot_change_the_value_is_named_too(self):
        self.check(("part", ("line", 3), 0), "line", [3])
        self.check(("take", ("line", 3), ("line", 3)), "line", [3])

    def test_a_table_of_the_outer_rule_and_of_those_within(self):
        self.check(("table", 1, ("add", ("table", 0, ONE), ("table", 4, ONE))), "table", [0, 1, 4])

    def test_a_percentage_and_a_number_are_not_named(self):
        rule = ("part", ("add", ("number", 40), ("line", 3)), 60)
        for word, expected in (("line", [3]), ("earlier", []), ("paper", []), ("table", []), ("choose", [])):
            with self.subTest(word=word):
                self.check(rule, word, expected)

    def test_a_paper_whose_word_is_that_of_a_form(self):
        for word in ("line", "earlier", "paper", "table", "choose"):
            rule = ("add", ("paper", word), ("number", 3))
            with self.subTest(word=word):
                self.check(rule, "paper", [word])
                if word != "paper":
                    self.check(rule, word, [])
        self.check(("choose", 2, ("paper", "choose"), ("paper", "line")), "paper", ["choose", "line"])
        self.check(("choose", 2, ("paper", "choose"), ("paper", "line")), "choose", [2])

    def test_eight_deep_in_each_place(self):
        for word, at in PLACES:
            rule = deepened(("line", 4), word, at, 7)
            with self.subTest(word=word, at=at):
                self.check(rule, "line", [4])
                self.check(deepened(("paper", "zz"), word, at, 7), "paper",
                           ["zz"] if (word, at) in (("part", 1), ("table", 2)) else
                           ["wages", "zz"] if self.keeps_paper(word, at) else ["zz"])

    def keeps_paper(self, word, at):
        form = form_named(word)
        return any(part == TWO for k, part in enumerate(form) if k != at)

    def test_a_new_list_each_time(self):
        for word, expected in (("line", [2, 9]), ("paper", ["aid", "rent", "wages"]), ("table", [0, 2]),
                               ("earlier", [4, 7]), ("choose", [1, 3])):
            with self.subTest(word=word):
                first = named(self.RULE, word)
                second = named(self.RULE, word)
                self.assertIsNot(first, second)
                first.append("more")
                first[0] = "other"
                self.assertEqual(second, expected)
                self.assertEqual(named(self.RULE, word), expected)

    def test_a_new_empty_list_each_time(self):
        first = named(ONE, "line")
        first.append(5)
        self.assertEqual(named(ONE, "line"), [])
        self.assertEqual(named(("number", 2), "paper"), [])

    def test_the_rule_is_the_same_behind_the_call(self):
        before = copy.deepcopy(self.RULE)
        for word in ("line", "earlier", "paper", "table", "choose"):
            named(self.RULE, word)
        self.assertEqual(self.RULE, before)


if __name__ == "__main__":
    unittest.main()
