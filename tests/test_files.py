"""Points 10 and 11: files, what comes to them and what they tell."""

import copy
import unittest

from formlines.errors import FormError, NoChoice, NoForm, NoLine, NoPaper, NoYear
from formlines.files import File
from formlines.forms import form_of
from formlines.reckoning import hanging, hanging_choice, history
from tests.makers import (
    FARTHEST, ODD, WORDS, add, deep_list, drawn_parts, draws, earlier, line, number, paper, plain_history,
)

ONE = number(1)

# Line 0: wages, and half of what the year ahead came to; line 1: the lesser half, if choice 0 is taken;
# line 2: a paper of its own; line 3: what is owed; line 4: nothing that a paper or a choice could change.
LINES = [
    add(paper("wages"), ("part", earlier(0), 50)),
    ("choose", 0, line(0), ("part", line(0), 50)),
    ("where", paper("aid"), number(7), ("choose", 1, number(0), number(3))),
    add(line(1), line(2)),
    number(40),
]
FORM = form_of(LINES, [], 2, 3)
EMPTY = [0, 0, 0, 0, 40]

NO_YEARS = tuple(odd for odd in ODD) + (-1, -2, -3, 3, 4, 8, 10 ** 5000, -10 ** 5000, "0", (0,), [0])
NO_WORDS = tuple(odd for odd in ODD) + ("Wages", "abcdefghi", "a1", "a ", "a\n", 0, 1, ("wages",), ["wages"])
NO_NUMBERS = tuple(odd for odd in ODD) + (FARTHEST + 1, -FARTHEST - 1, 10 ** 5000, -10 ** 5000, "5", (5,), [5])
NO_CHOICES = tuple(odd for odd in ODD) + (-1, -2, 2, 3, 8, 10 ** 5000, "0", (0,), [0])
NO_LINES = tuple(odd for odd in ODD) + (-1, -5, 5, 6, 40, 10 ** 5000, "0", (0,), [0])


class FileTest(unittest.TestCase):
    def refused(self, refusal, deed, *parts):
        before = copy.deepcopy(parts)
        with self.assertRaises(refusal) as caught:
            deed(*parts)
        self.assertIs(type(caught.exception), refusal)
        self.assertIsInstance(caught.exception, FormError)
        self.assertIsInstance(caught.exception, ValueError)
        self.assertEqual(parts, before)

    def check_pairs(self, told, expected):
        self.assertIs(type(told), list)
        self.assertEqual(told, expected)
        for pair in told:
            self.assertIs(type(pair), tuple)
            self.assertEqual([type(part) for part in pair], [int, int])

    def check_file(self, file, form, papers, taken):
        """That a file tells all that years of these papers (dicts) and choices come to."""
        years = [list(row.items()) for row in papers]
        expected = plain_history(form, years, taken)
        for year, lines in enumerate(expected):
            told = file.values(year)
            self.assertIs(type(told), list)
            self.assertEqual(told, lines)
            self.assertTrue(all(type(value) is int for value in told))
            self.assertEqual([file.value(year, k) for k in range(len(lines))], lines)
            self.check_told(file.told(year), sorted(years[year]), list(taken[year]))
        self.assertEqual(file.owed(), sum(lines[form[3]] for lines in expected))
        self.assertIs(type(file.owed()), int)
        return expected

    def check_told(self, told, pairs, truths):
        self.assertIs(type(told), tuple)
        self.assertEqual(told, (pairs, truths))
        self.assertEqual([type(part) for part in told], [list, list])
        self.assertTrue(all(type(pair) is tuple for pair in told[0]))
        self.assertTrue(all(type(truth) is bool for truth in told[1]))

    def all_told(self, file, count):
        return ([file.values(year) for year in range(count)], [file.told(year) for year in range(count)], file.owed())


class TestNewFile(FileTest):
    def test_one_to_eight_years(self):
        for count in range(1, 9):
            file = File(FORM, count)
            with self.subTest(count=count):
                self.check_file(file, FORM, [{}] * count, [[False, False]] * count)
                for year in range(count):
                    self.assertEqual(file.values(year), EMPTY)
                    self.check_told(file.told(year), [], [False, False])
                for year in (-1, count, count + 1):
                    self.refused(NoYear, file.values, year)

    def test_counts_that_cannot_be(self):
        for count in ODD + (0, 9, 10, -1, -8, 10 ** 5000, -10 ** 5000, "3", (3,), [3]):
            self.refused(NoForm, File, FORM, count)
        with self.assertRaises(NoForm):
            File(FORM, deep_list(900))

    def test_a_form_that_comes_to_something_of_itself(self):
        form = form_of([add(earlier(0), number(5)), ("choose", 0, line(0), number(-1))], [], 1, 1)
        file = File(form, 3)
        self.assertEqual([file.values(year) for year in range(3)], [[5, 5], [10, 10], [15, 15]])
        self.assertEqual(file.owed(), 30)

    def test_no_choice_is_taken(self):
        form = form_of([("choose", k, number(1), number(2)) for k in range(8)], [], 8, 0)
        file = File(form, 2)
        self.assertEqual(file.values(0), [1] * 8)
        self.check_told(file.told(1), [], [False] * 8)

    def test_a_form_without_choices(self):
        file = File(form_of([ONE], [], 0, 0), 2)
        self.check_told(file.told(0), [], [])
        self.assertEqual(file.owed(), 2)

    def test_arguments_by_name(self):
        file = File(count=2, form=FORM)
        self.assertEqual(file.put(number=10, word="wages", year=1), [(1, 0), (1, 1), (1, 3)])
        self.assertEqual(file.take(taken=True, choice=0, year=1), [(1, 1), (1, 3)])
        self.assertEqual(file.value(line=1, year=1), 5)
        self.assertEqual(file.told(year=1), ([("wages", 10)], [True, False]))


class TestPut(FileTest):
    def test_a_paper_in_the_last_year(self):
        file = File(FORM, 3)
        self.check_pairs(file.put(2, "wages", 100), [(2, 0), (2, 1), (2, 3)])
        self.assertEqual([file.values(year) for year in range(3)], [EMPTY, EMPTY, [100, 100, 0, 100, 40]])
        self.assertEqual(file.owed(), 100)

    def test_a_paper_that_changes_later_years(self):
        file = File(FORM, 3)
        expected = [(year, k) for year in range(3) for k in (0, 1, 3)]
        self.check_pairs(file.put(0, "wages", 100), expected)
        self.assertEqual([file.values(year) for year in range(3)],
                         [[100, 100, 0, 100, 40], [50, 50, 0, 50, 40], [25, 25, 0, 25, 40]])
        self.assertEqual(file.owed(), 175)

    def test_just_the_years_whose_values_are_others(self):
        # Half of 1 is nought: all years hang on the paper, but just the first has other values.
        file = File(FORM, 8)
        self.check_pairs(file.put(0, "wages", 1), [(0, 0), (0, 1), (0, 3)])
        self.check_pairs(file.put(0, "wages", 5), [(year, k) for year in range(3) for k in (0, 1, 3)])
        self.check_pairs(file.put(0, "wages", 4), [(0, 0), (0, 1), (0, 3)])

    def test_years_that_are_alike_between_years_that_change(self):
        # Line 0 of the next year hangs on line 0, but is hidden there; line 1 hands the number on.
        form = form_of([paper("a"), earlier(0), earlier(1), ("part", line(1), 0)], [], 0, 0)
        file = File(form, 4)
        self.check_pairs(file.put(0, "a", 9), [(0, 0), (1, 1), (2, 2)])
        form = form_of([paper("a"), add(earlier(0), earlier(2)), ("where", number(0), line(1), line(3)), earlier(0)],
                       [], 0, 0)
        file = File(form, 4)
        self.check_pairs(file.put(0, "a", 9), [(0, 0), (1, 1), (1, 2), (1, 3), (2, 1)])

    def test_just_the_lines_whose_values_are_others(self):
        form = form_of([paper("a"), ("part", paper("a"), 10), ("where", paper("a"), ONE, number(2)),
                        ("most", paper("a"), number(6)), ("part", paper("a"), 0), paper("b")], [], 0, 0)
        file = File(form, 1)
        self.check_pairs(file.put(0, "a", 5), [(0, 0), (0, 2)])
        self.check_pairs(file.put(0, "a", 6), [(0, 0)])
        self.check_pairs(file.put(0, "a", 9), [(0, 0), (0, 3)])
        self.check_pairs(file.put(0, "a", 10), [(0, 0), (0, 1), (0, 3)])
        self.check_pairs(file.put(0, "a", -1), [(0, 0), (0, 1), (0, 2), (0, 3)])
        self.check_pairs(file.put(0, "a", -2), [(0, 0)])
        self.check_pairs(file.put(0, "b", 1), [(0, 5)])

    def test_a_line_that_a_choice_hides(self):
        form = form_of([("choose", 0, number(0), paper("a"))], [], 1, 0)
        file = File(form, 1)
        self.check_pairs(file.put(0, "a", 5), [])
        self.check_pairs(file.take(0, 0, True), [(0, 0)])
        self.check_pairs(file.put(0, "a", 6), [(0, 0)])
        self.assertEqual(file.values(0), [6])

    def test_a_paper_again(self):
        file = File(FORM, 2)
        file.put(1, "wages", 100)
        self.check_pairs(file.put(1, "wages", 100), [])
        self.check_told(file.told(1), [("wages", 100)], [False, False])
        self.check_pairs(file.put(1, "wages", 99), [(1, 0), (1, 1), (1, 3)])
        self.check_told(file.told(1), [("wages", 99)], [False, False])
        self.assertEqual(file.values(1), [99, 99, 0, 99, 40])
        self.check_pairs(file.put(1, "wages", 0), [(1, 0), (1, 1), (1, 3)])
        self.check_told(file.told(1), [("wages", 0)], [False, False])
        self.assertEqual(file.values(1), EMPTY)
        self.check_pairs(file.put(1, "wages", 0), [])

    def test_a_paper_of_nought(self):
        file = File(FORM, 2)
        self.check_pairs(file.put(0, "wages", 0), [])
        self.check_told(file.told(0), [("wages", 0)], [False, False])
        self.check_told(file.told(1), [], [False, False])

    def test_a_paper_that_no_line_names(self):
        file = File(FORM, 2)
        self.check_pairs(file.put(1, "other", 5), [])
        self.check_told(file.told(1), [("other", 5)], [False, False])
        self.assertEqual(file.values(1), EMPTY)

    def test_numbers_at_the_bounds(self):
        file = File(FORM, 1)
        for n in (FARTHEST, -FARTHEST):
            self.check_pairs(file.put(0, "wages", n), [(0, 0), (0, 1), (0, 3)])
            self.assertEqual(file.value(0, 0), n)

    def test_papers_of_several_years(self):
        file = File(FORM, 3)
        file.put(1, "wages", 10)
        self.check_pairs(file.put(0, "wages", 4), [(year, k) for year in range(3) for k in (0, 1, 3)])
        self.check_pairs(file.put(2, "aid", 1), [(2, 2), (2, 3)])
        self.assertEqual([file.values(year) for year in range(3)],
                         [[4, 4, 0, 4, 40], [12, 12, 0, 12, 40], [6, 6, 7, 13, 40]])
        self.assertEqual(file.owed(), 29)

    def test_pairs_rise_as_numbers(self):
        form = form_of([("add", paper("a"), earlier(11))] * 12, [], 0, 0)
        self.check_pairs(File(form, 8).put(1, "a", 1), [(year, k) for year in range(1, 8) for k in range(12)])

    def test_refused(self):
        file = File(FORM, 3)
        file.put(1, "wages", 10)
        file.take(1, 1, True)
        before = self.all_told(file, 3)
        for year in NO_YEARS:
            self.refused(NoYear, file.put, year, "wages", 1)
            self.refused(NoYear, file.put, year, "Wages", 1)
            self.refused(NoYear, file.put, year, "wages", None)
            self.refused(NoYear, file.put, year, None, True)
        for word in NO_WORDS:
            self.refused(NoPaper, file.put, 1, word, 1)
            self.refused(NoPaper, file.put, 0, word, None)
        for n in NO_NUMBERS:
            self.refused(NoPaper, file.put, 1, "wages", n)
            self.refused(NoPaper, file.put, 2, "other", n)
            self.refused(NoPaper, file.put, 2, 5, n)
        self.assertEqual(self.all_told(file, 3), before)
        self.check_file(file, FORM, [{}, {"wages": 10}, {}], [[False, False], [False, True], [False, False]])
        self.check_pairs(file.put(1, "wages", 10), [])

    def test_things_several_hundred_deep(self):
        file, deep = File(FORM, 1), deep_list(900)
        for refusal, deed, parts in (
            (NoYear, file.put, (deep, "a", 1)), (NoPaper, file.put, (0, deep, 1)), (NoPaper, file.put, (0, "a", deep)),
            (NoYear, file.take, (deep, 0, True)), (NoChoice, file.take, (0, deep, True)),
            (NoYear, file.values, (deep,)), (NoYear, file.told, (deep,)), (NoYear, file.value, (deep, 0)),
            (NoLine, file.value, (0, deep)),
        ):
            with self.assertRaises(refusal):
                deed(*parts)


class TestTake(FileTest):
    def test_taken_and_taken_again_and_given_back(self):
        file = File(FORM, 2)
        file.put(0, "wages", 100)
        self.check_pairs(file.take(0, 0, True), [(0, 1), (0, 3)])
        self.check_told(file.told(0), [("wages", 100)], [True, False])
        self.assertEqual(file.values(0), [100, 50, 0, 50, 40])
        self.assertEqual(file.owed(), 100)
        self.check_pairs(file.take(0, 0, True), [])
        self.check_told(file.told(0), [("wages", 100)], [True, False])
        self.check_pairs(file.take(0, 0, False), [(0, 1), (0, 3)])
        self.check_told(file.told(0), [("wages", 100)], [False, False])
        self.assertEqual(file.owed(), 150)
        self.check_pairs(file.take(0, 0, False), [])

    def test_a_choice_that_changes_no_value(self):
        file = File(FORM, 2)
        self.check_pairs(file.take(0, 0, True), [])
        self.check_told(file.told(0), [], [True, False])
        self.check_pairs(file.put(0, "wages", 10), [(0, 0), (0, 1), (0, 3), (1, 0), (1, 1), (1, 3)])
        self.assertEqual(file.values(0), [10, 5, 0, 5, 40])

    def test_each_year_and_each_choice_apart(self):
        file = File(FORM, 3)
        self.check_pairs(file.take(1, 1, True), [(1, 2), (1, 3)])
        self.check_told(file.told(0), [], [False, False])
        self.check_told(file.told(1), [], [False, True])
        self.check_told(file.told(2), [], [False, False])
        self.check_pairs(file.take(2, 1, True), [(2, 2), (2, 3)])
        self.check_pairs(file.take(1, 1, False), [(1, 2), (1, 3)])
        self.assertEqual(file.owed(), 3)

    def test_a_choice_that_changes_later_years(self):
        form = form_of([add(earlier(0), ("choose", 0, number(0), number(5))), ("least", line(0), number(5))], [], 1, 0)
        file = File(form, 3)
        self.check_pairs(file.take(1, 0, True), [(1, 0), (1, 1), (2, 0), (2, 1)])
        self.check_pairs(file.take(0, 0, True), [(0, 0), (0, 1), (1, 0), (2, 0)])
        self.assertEqual([file.values(year) for year in range(3)], [[5, 5], [10, 5], [10, 5]])

    def test_a_choice_that_no_line_names(self):
        file = File(form_of([ONE], [], 8, 0), 1)
        for choice in range(8):
            self.check_pairs(file.take(0, choice, True), [])
        self.check_told(file.told(0), [], [True] * 8)

    def test_refused(self):
        file = File(FORM, 3)
        file.put(1, "wages", 10)
        file.take(1, 1, True)
        before = self.all_told(file, 3)
        for truth in (True, False):
            for year in NO_YEARS:
                self.refused(NoYear, file.take, year, 0, truth)
                self.refused(NoYear, file.take, year, 2, truth)
                self.refused(NoYear, file.take, year, None, truth)
            for choice in NO_CHOICES:
                self.refused(NoChoice, file.take, 0, choice, truth)
                self.refused(NoChoice, file.take, 1, choice, truth)
        self.assertEqual(self.all_told(file, 3), before)
        self.check_pairs(file.take(1, 1, True), [])

    def test_what_is_no_truth(self):
        file = File(FORM, 1)
        for odd in (0, 1, None, "", "True", (), [True]):
            self.refused(NoChoice, file.take, 0, 0, odd)
            self.refused(NoYear, file.take, 1, 0, odd)
        self.check_told(file.told(0), [], [False, False])

    def test_no_choices_at_all(self):
        file = File(form_of([ONE], [], 0, 0), 1)
        self.refused(NoChoice, file.take, 0, 0, True)
        self.refused(NoYear, file.take, 1, 0, True)


class TestWhatAFileTells(FileTest):
    def test_values(self):
        file = File(FORM, 3)
        for year in NO_YEARS:
            self.refused(NoYear, file.values, year)

    def test_value(self):
        file = File(FORM, 3)
        file.put(2, "wages", 8)
        self.assertEqual([file.value(2, k) for k in range(5)], [8, 8, 0, 8, 40])
        for year in NO_YEARS:
            self.refused(NoYear, file.value, year, 0)
            for k in (-1, 5, None, True, "a"):
                self.refused(NoYear, file.value, year, k)
        for k in NO_LINES:
            self.refused(NoLine, file.value, 0, k)
            self.refused(NoLine, file.value, 2, k)

    def test_owed_is_the_owed_line_of_all_years(self):
        for owed in range(5):
            file = File(form_of(LINES, [], 2, owed), 3)
            file.put(0, "wages", 100)
            file.put(1, "aid", 1)
            self.assertEqual(file.owed(), [175, 175, 7, 182, 120][owed])

    def test_told(self):
        file = File(FORM, 3)
        for year in NO_YEARS:
            self.refused(NoYear, file.told, year)

    def test_papers_rise_by_word(self):
        file = File(FORM, 2)
        for word, n in (("wages", 5), ("b", 9), ("abc", 7), ("ab", 8), ("z", 1), ("a", 3), ("b", 2)):
            file.put(0, word, n)
        pairs = [("a", 3), ("ab", 8), ("abc", 7), ("b", 2), ("wages", 5), ("z", 1)]
        self.check_told(file.told(0), pairs, [False, False])
        self.check_told(file.told(1), [], [False, False])

    def test_lists_that_are_told_are_the_askers_own(self):
        file = File(FORM, 2)
        first = file.put(0, "wages", 100)
        values, told, later = file.values(0), file.told(0), file.values(1)
        kept = copy.deepcopy((first, values, told, later))
        file.put(0, "wages", 30)
        file.put(0, "aid", 30)
        file.take(0, 1, True)
        self.assertEqual((first, values, told, later), kept)

    def test_what_the_asker_does_changes_no_file(self):
        file = File(FORM, 2)
        file.put(0, "wages", 100)
        before = self.all_told(file, 2)
        file.put(0, "wages", 100).append((0, 0))
        for year in range(2):
            values, told = file.values(year), file.told(year)
            values[0] = 999
            values.append(5)
            told[0].append(("more", 1))
            told[0][0] = ("wages", 77)
            told[1][0] = True
            told[1].append(True)
        self.assertEqual(self.all_told(file, 2), before)
        self.check_pairs(file.put(0, "wages", 100), [])
        self.check_pairs(file.put(1, "wages", 2), [(1, 0), (1, 1), (1, 3)])
        self.assertEqual(file.values(1), [52, 52, 0, 52, 40])

    def test_two_files_of_one_form_stay_apart(self):
        one, other = File(FORM, 2), File(FORM, 2)
        one.put(0, "wages", 100)
        one.take(1, 0, True)
        self.assertEqual(self.all_told(other, 2), self.all_told(File(FORM, 2), 2))
        other.put(1, "aid", 1)
        self.assertEqual(one.values(1), [50, 25, 0, 25, 40])
        self.assertEqual(other.values(1), [0, 0, 7, 7, 40])
        self.check_told(one.told(1), [], [True, False])
        self.check_told(other.told(1), [("aid", 1)], [False, False])

    def test_the_form_stays_as_it_was(self):
        form = form_of(LINES, [((0, 1, 2),)], 2, 3)
        before = copy.deepcopy(form)
        file = File(form, 2)
        file.put(0, "wages", 5)
        file.take(0, 1, True)
        self.assertEqual(form, before)


class TestDeedsByChance(FileTest):
    def test_deeds(self):
        for rng in draws("deeds", 120):
            form = form_of(*drawn_parts(rng))
            count = rng.randrange(1, 4)
            file = File(form, count)
            papers = [{} for _ in range(count)]
            taken = [[False] * form[2] for _ in range(count)]
            before = self.check_file(file, form, papers, taken)
            for _ in range(8):
                year = rng.randrange(count)
                if form[2] and rng.random() < 0.4:
                    choice, truth = rng.randrange(form[2]), rng.random() < 0.6
                    told, hung = file.take(year, choice, truth), hanging_choice(form, count, year, choice)
                    taken[year][choice] = truth
                else:
                    word, n = rng.choice(WORDS), rng.choice((0, 1, -1, rng.randrange(-300, 300)))
                    told, hung = file.put(year, word, n), hanging(form, count, year, word)
                    papers[year][word] = n
                after = self.check_file(file, form, papers, taken)
                self.check_pairs(told, [(now, k) for now in range(count) for k in range(len(form[0]))
                                        if before[now][k] != after[now][k]])
                self.assertTrue(set(told) <= set(hung))
                self.assertEqual(after, history(form, [list(row.items()) for row in papers], taken))
                before = after


if __name__ == "__main__":
    unittest.main()
