"""Point 9: all choices of some years, the sum of each, and the least."""

import copy
import unittest

from formlines.choosing import least, sums
from formlines.errors import FormError, NoPaper, TooMany
from formlines.forms import form_of
from tests.makers import (
    FARTHEST, ODD, add, all_choices, drawn_pairs, drawn_parts, draws, earlier, line, number, paper, plain_history,
)

ONE = number(1)
F, T = False, True


def weighed(choices, *more):
    """A form whose owed line tells by its value which choices are taken: 1 for choice 0, 10 for choice 1, and so on."""
    weights = [("choose", k, number(0), number(10 ** k)) for k in range(choices)]
    return form_of([add(number(0), *weights, *more)], [], choices, 0)


class ChoosingTest(unittest.TestCase):
    def check(self, form, years, expected):
        before = copy.deepcopy((form, years))
        told = sums(form, years)
        self.assertEqual((form, years), before)
        self.assertEqual(told, expected)
        self.check_kinds(told, form, years)
        first = least(form, years)
        self.assertEqual((form, years), before)
        self.check_kinds([first], form, years)
        lowest = sorted(total for _, total in expected)[0]
        self.assertEqual(first, [pair for pair in expected if pair[1] == lowest][0])
        told.reverse()
        told.append("more")
        self.assertEqual(sums(form, years), expected)

    def check_kinds(self, told, form, years):
        self.assertIs(type(told), list)
        for pair in told:
            self.assertIs(type(pair), tuple)
            choices, total = pair
            self.assertIs(type(choices), tuple)
            self.assertEqual(len(choices), len(years))
            for row in choices:
                self.assertIs(type(row), tuple)
                self.assertEqual([type(truth) for truth in row], [bool] * form[2])
            self.assertIs(type(total), int)

    def refused(self, refusal, form, years):
        before = copy.deepcopy((form, years))
        for function in (sums, least):
            with self.assertRaises(refusal) as caught:
                function(form, years)
            self.assertIs(type(caught.exception), refusal)
            self.assertIsInstance(caught.exception, FormError)
            self.assertEqual((form, years), before)


class TestSums(ChoosingTest):
    def test_no_choice_at_all(self):
        form = form_of([paper("a"), add(line(0), earlier(1))], [], 0, 1)
        self.check(form, [[("a", 5)]], [(((),), 5)])
        self.check(form, [[("a", 5)], [], [("a", -2)]], [(((), (), ()), 13)])
        self.check(form, [[]] * 20, [(((),) * 20, 0)])

    def test_no_year(self):
        for choices in range(9):
            with self.subTest(choices=choices):
                self.check(weighed(choices), [], [((), 0)])

    def test_one_choice_in_one_year(self):
        self.check(weighed(1), [[]], [(((F,),), 0), (((T,),), 1)])

    def test_two_choices_in_one_year(self):
        self.check(weighed(2), [[]], [(((F, F),), 0), (((F, T),), 10), (((T, F),), 1), (((T, T),), 11)])

    def test_one_choice_in_two_years(self):
        form = form_of([("choose", 0, number(0), add(ONE, paper("a")))], [], 1, 0)
        self.check(form, [[], [("a", 9)]],
                   [(((F,), (F,)), 0), (((F,), (T,)), 10), (((T,), (F,)), 1), (((T,), (T,)), 11)])

    def test_three_choices_in_one_year(self):
        self.check(weighed(3), [[]], [
            (((F, F, F),), 0), (((F, F, T),), 100), (((F, T, F),), 10), (((F, T, T),), 110),
            (((T, F, F),), 1), (((T, F, T),), 101), (((T, T, F),), 11), (((T, T, T),), 111),
        ])

    def test_two_choices_in_two_years(self):
        form = weighed(2, ("part", earlier(0), 0))
        told = sums(form, [[], []])
        self.assertEqual([choices for choices, _ in told], [
            ((F, F), (F, F)), ((F, F), (F, T)), ((F, F), (T, F)), ((F, F), (T, T)),
            ((F, T), (F, F)), ((F, T), (F, T)), ((F, T), (T, F)), ((F, T), (T, T)),
            ((T, F), (F, F)), ((T, F), (F, T)), ((T, F), (T, F)), ((T, F), (T, T)),
            ((T, T), (F, F)), ((T, T), (F, T)), ((T, T), (T, F)), ((T, T), (T, T)),
        ])
        self.assertEqual([total for _, total in told], [0, 10, 1, 11, 10, 20, 11, 21, 1, 11, 2, 12, 11, 21, 12, 22])

    def test_eight_choices_in_all_years_together(self):
        for choices, years in ((8, 1), (4, 2), (2, 4), (1, 8)):
            form = weighed(choices)
            expected = []
            for taken in all_choices(choices, years):
                expected.append((taken, sum(10 ** k for row in taken for k, truth in enumerate(row) if truth)))
            self.assertEqual(len(expected), 256)
            with self.subTest(choices=choices):
                self.check(form, [[] for _ in range(years)], expected)

    def test_choices_that_no_line_names_count_too(self):
        self.check(form_of([number(7)], [], 2, 0), [[]], [(row, 7) for row in all_choices(2, 1)])

    def test_the_owed_line_in_all_years_together(self):
        lines = [paper("a"), paper("b"), add(line(0), earlier(2))]
        years = [[("a", 1), ("b", 10)], [("a", 2), ("b", 20)], [("b", 30), ("a", 4)]]
        for owed, total in ((0, 7), (1, 60), (2, 11)):
            with self.subTest(owed=owed):
                self.check(form_of(lines, [], 0, owed), years, [(((), (), ()), total)])

    def test_a_choice_changes_later_years_too(self):
        form = form_of([add(earlier(0), ("choose", 0, number(0), paper("a")))], [], 1, 0)
        self.check(form, [[("a", 1)], [("a", 10)], [("a", 100)]], [
            (((F,), (F,), (F,)), 0), (((F,), (F,), (T,)), 100), (((F,), (T,), (F,)), 20), (((F,), (T,), (T,)), 120),
            (((T,), (F,), (F,)), 3), (((T,), (F,), (T,)), 103), (((T,), (T,), (F,)), 23), (((T,), (T,), (T,)), 123),
        ])

    def test_sums_below_nought_and_far_beyond_the_bounds(self):
        form = form_of([("choose", 0, add(*[number(-FARTHEST)] * 8), add(*[number(FARTHEST)] * 8))], [], 1, 0)
        self.check(form, [[], []], [
            (((F,), (F,)), -16 * FARTHEST), (((F,), (T,)), 0), (((T,), (F,)), 0), (((T,), (T,)), 16 * FARTHEST),
        ])

    def test_by_chance(self):
        for rng in draws("sums", 150):
            form = form_of(*drawn_parts(rng, most_lines=4))
            count = rng.randrange(3)
            if form[2] * count <= 4:
                years = [drawn_pairs(rng) for _ in range(count)]
                expected = []
                for taken in all_choices(form[2], count):
                    lines = plain_history(form, years, taken)
                    expected.append((taken, sum(row[form[3]] for row in lines)))
                self.check(form, years, expected)

    def test_arguments_by_name(self):
        self.assertEqual(sums(years=[[]], form=weighed(0)), [(((),), 0)])
        self.assertEqual(least(years=[[]], form=weighed(1)), (((F,),), 0))


class TestRefused(ChoosingTest):
    def test_nine_choices_and_more(self):
        for choices, years in ((1, 9), (3, 3), (1, 10), (5, 2), (8, 2), (4, 3), (2, 5), (7, 2), (8, 40)):
            with self.subTest(choices=choices, years=years):
                self.refused(TooMany, weighed(choices), [[] for _ in range(years)])

    def test_choices_that_no_line_names_are_too_many_too(self):
        self.refused(TooMany, form_of([ONE], [], 3, 0), [[], [], []])

    def test_many_years_without_choices_are_not_too_many(self):
        self.check(weighed(0), [[]] * 9, [(((),) * 9, 0)])

    def test_papers_that_cannot_be(self):
        for pairs in [[(odd, 1)] for odd in ODD] + [[("a", odd)] for odd in ODD] + [
                [("A", 1)], [("abcdefghi", 1)], [("a", FARTHEST + 1)], [("a", -FARTHEST - 1)], [("a", 1), ("a", 1)],
                [("a", 1), ("b", 2), ("a", 3)]]:
            for choices in (0, 1, 2):
                self.refused(NoPaper, weighed(choices), [pairs])
                self.refused(NoPaper, weighed(choices), [[("a", 1)], pairs])
                self.refused(NoPaper, weighed(choices), [pairs, [("a", 1)], []])

    def test_papers_at_the_bounds(self):
        self.check(form_of([paper("abcdefgh")], [], 0, 0), [[("abcdefgh", FARTHEST)], [("abcdefgh", -FARTHEST)]],
                   [(((), ()), 0)])

    def test_one_word_in_two_years(self):
        self.check(form_of([paper("a")], [], 0, 0), [[("a", 3)], [("a", 4)]], [(((), ()), 7)])

    def test_too_many_ahead_of_papers(self):
        for pairs in ([("A", 1)], [("a", None)], [("a", 1), ("a", 1)]):
            self.refused(TooMany, weighed(1), [[] for _ in range(8)] + [pairs])
            self.refused(TooMany, weighed(1), [pairs] + [[] for _ in range(8)])
            self.refused(TooMany, weighed(8), [pairs, pairs])
            self.refused(TooMany, weighed(3), [pairs, [], []])
            self.refused(NoPaper, weighed(1), [pairs] + [[] for _ in range(7)])
            self.refused(NoPaper, weighed(8), [pairs])


class TestLeast(ChoosingTest):
    def test_each_of_some_choices_can_be_the_least(self):
        for many in (1, 2, 3):
            for at, taken in enumerate(all_choices(many, 1)):
                wanted = [("choose", k, number(0 if not truth else 1), number(1 if not truth else 0))
                          for k, truth in enumerate(taken[0])]
                form = form_of([add(number(0), *wanted)], [], many, 0)
                with self.subTest(many=many, at=at):
                    self.assertEqual(least(form, [[]]), (taken, 0))

    def test_the_first_of_several_that_owe_the_least(self):
        self.assertEqual(least(form_of([number(7)], [], 3, 0), [[], []]), (((F, F, F), (F, F, F)), 14))
        form = form_of([("choose", 0, number(5), number(3))], [], 2, 0)
        self.assertEqual(least(form, [[]]), (((T, F),), 3))
        form = form_of([("choose", 1, number(5), number(3))], [], 2, 0)
        self.assertEqual(least(form, [[], []]), (((F, T), (F, T)), 6))
        form = form_of([("most", ("choose", 0, number(5), number(3)), ("choose", 1, number(5), number(3)))], [], 2, 0)
        self.assertEqual(least(form, [[]]), (((T, T),), 3))
        form = form_of([("least", ("choose", 0, number(5), number(3)), ("choose", 1, number(5), number(3)))], [], 2, 0)
        self.assertEqual(least(form, [[]]), (((F, T),), 3))

    def test_the_first_where_a_later_year_could_save_as_much(self):
        saved = ("where", earlier(2), number(0), number(-4))
        form = form_of([add(number(10), line(1)), ("choose", 0, number(0), saved),
                        add(earlier(2), ("choose", 0, number(0), number(1)))], [], 1, 0)
        self.assertEqual(sums(form, [[], []]), [
            (((F,), (F,)), 20), (((F,), (T,)), 16), (((T,), (F,)), 16), (((T,), (T,)), 16),
        ])
        self.assertEqual(least(form, [[], []]), (((F,), (T,)), 16))

    def test_the_least_in_all_years_not_in_the_first(self):
        # Taking the choice costs 1 in its own year and saves 5 in the next.
        form = form_of([("take", ("choose", 0, number(0), number(1)), earlier(1)),
                        ("choose", 0, number(0), number(5))], [], 1, 0)
        self.assertEqual(least(form, [[], []]), (((T,), (F,)), -4))
        self.assertEqual(least(form, [[]]), (((F,),), 0))

    def test_no_year_and_no_choice(self):
        self.assertEqual(least(weighed(8), []), ((), 0))
        self.assertEqual(least(weighed(0), [[], []]), (((), ()), 0))

    def test_told_again_the_same(self):
        form = form_of([("choose", 0, paper("a"), paper("b"))], [], 1, 0)
        years = [[("a", 5), ("b", 3)], [("a", 2), ("b", 4)]]
        expected = [(((F,), (F,)), 7), (((F,), (T,)), 9), (((T,), (F,)), 5), (((T,), (T,)), 7)]
        first = sums(form, years)
        first[0] = "other"
        first.pop()
        self.assertEqual(sums(form, years), expected)
        self.assertEqual(least(form, years), expected[2])
        years[0].append(("c", 1))
        years.append([])
        self.assertEqual(sums(form, years[:2]), expected)


if __name__ == "__main__":
    unittest.main()
