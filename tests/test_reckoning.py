"""Points 7 and 8: years reckoned, and what hangs on a paper or on a choice."""

import copy
import itertools
import unittest

from formlines.errors import FormError, NoChoice, NoPaper
from formlines.forms import form_of
from formlines.reckoning import hanging, hanging_choice, history, reckoned
from tests.makers import (
    FARTHEST, ODD, WORDS, add, deep_list, drawn_pairs, drawn_parts, drawn_taken, draws, earlier, line, number, paper,
    plain_hanging, plain_history,
)

TABLE = ((100, 7, 10), (200, -50, 20), (300, 5, 100))
ONE = number(1)

# Words and numbers that can't be a paper's.
NO_WORDS = tuple(odd for odd in ODD) + ("Wages", "WAGES", "wAges", "abcdefghi", "a1", "a ", " a", "a\n", "\t", 0, 1,
                                        ("wages",), ["wages"])
NO_NUMBERS = tuple(odd for odd in ODD) + (FARTHEST + 1, -FARTHEST - 1, 10 ** 5000, -10 ** 5000, "5", (5,), [5])
NO_TRUTHS = (0, 1, 2, -1, None, "", "True", (), [], (True,), [True])


class YearTest(unittest.TestCase):
    def told(self, function, *parts):
        before = copy.deepcopy(parts)
        result = function(*parts)
        self.assertEqual(parts, before)
        return result

    def refused(self, refusal, function, *parts):
        before = copy.deepcopy(parts)
        with self.assertRaises(refusal) as caught:
            function(*parts)
        self.assertIs(type(caught.exception), refusal)
        self.assertIsInstance(caught.exception, FormError)
        self.assertEqual(parts, before)

    def check_lines(self, told, expected):
        self.assertIs(type(told), list)
        self.assertEqual(told, expected)
        self.assertTrue(all(type(value) is int for value in told), told)


class TestRulesReckoned(YearTest):
    """Each form of rule, by the papers one and other, a table and a choice."""

    def check(self, rule, expected, one=0, other=0, taken=False, ahead=()):
        form = form_of([rule, number(0)], [TABLE], 1, 0)
        pairs = [("one", one), ("other", other)]
        told = self.told(reckoned, form, pairs, list(ahead), [taken])
        self.check_lines(told, [expected, 0])

    def test_number(self):
        for n in (-FARTHEST, -1, 0, 1, 77, FARTHEST):
            with self.subTest(n=n):
                self.check(number(n), n)

    def test_paper(self):
        for n in (-FARTHEST, -1, 0, 1, 77, FARTHEST):
            with self.subTest(n=n):
                self.check(paper("one"), n, one=n, other=5)
                self.check(paper("other"), n, one=5, other=n)

    def test_a_paper_that_is_not_there(self):
        self.check(paper("none"), 0, one=3, other=4)
        self.check(add(paper("on"), paper("ones"), paper("o"), paper("eno")), 0, one=3, other=4)

    def test_a_paper_whose_word_is_that_of_a_form(self):
        form = form_of([paper("line"), paper("earlier"), ("add", paper("number"), paper("add"))], [], 0, 0)
        told = reckoned(form, [("line", 1), ("add", 20), ("earlier", 300), ("number", 4)], [9, 9, 9], [])
        self.check_lines(told, [1, 300, 24])

    def test_line(self):
        for n in (-5, 0, 5):
            form = form_of([line(2), line(0), number(n), line(1)], [], 0, 0)
            self.check_lines(self.told(reckoned, form, [], [70, 80, 90, 60], []), [n, n, n, n])

    def test_earlier(self):
        self.check(earlier(0), 0)
        self.check(earlier(1), 0)
        self.check(earlier(0), 8, ahead=(8, -9))
        self.check(earlier(1), -9, ahead=(8, -9))
        self.check(earlier(0), 0, ahead=(0, 5))
        self.check(add(earlier(0), earlier(1)), 12, ahead=(10 ** 15, 12 - 10 ** 15))

    def test_both_of_two(self):
        for one, other in itertools.product((-1000000, -3, -1, 0, 1, 2, 1000000), repeat=2):
            with self.subTest(one=one, other=other):
                for word, expected in (("add", one + other), ("take", one - other),
                                       ("least", sorted((one, other))[0]), ("most", sorted((one, other))[1])):
                    self.check((word, paper("one"), paper("other")), expected, one, other)

    def test_both_of_two_as_written_out(self):
        self.check(("add", number(7), number(-10)), -3)
        self.check(("take", number(7), number(-10)), 17)
        self.check(("take", number(-10), number(7)), -17)
        self.check(("least", number(7), number(-10)), -10)
        self.check(("least", number(-10), number(7)), -10)
        self.check(("most", number(7), number(-10)), 7)
        self.check(("most", number(-10), number(7)), 7)

    def test_part(self):
        for one, percent, expected in (
            (100, 50, 50), (101, 50, 50), (99, 50, 49), (1, 50, 0), (1, 99, 0), (1, 100, 1), (0, 50, 0), (12345, 0, 0),
            (12345, 100, 12345), (12345, 1, 123), (12345, 33, 4073), (200, 75, 150),
            (-100, 50, -50), (-101, 50, -51), (-99, 50, -50), (-1, 50, -1), (-1, 1, -1), (-1, 0, 0), (-1, 100, -1),
            (-12345, 33, -4074), (-200, 75, -150),
        ):
            with self.subTest(one=one, percent=percent):
                self.check(("part", paper("one"), percent), expected, one)

    def test_a_part_of_a_part_is_rounded_each_time(self):
        self.check(("part", ("part", paper("one"), 50), 50), 24, 99)
        self.check(("part", ("part", paper("one"), 50), 50), -25, -99)
        self.check(("part", ("part", paper("one"), 10), 100), 0, 9)

    def test_large_numbers_lose_nothing(self):
        big = number(FARTHEST)
        for _ in range(7):
            big = ("add", big, big)
        form = form_of([big] + [add(line(k), line(k), line(k), line(k)) for k in range(38)] + [("part", line(38), 33)],
                       [], 0, 0)
        top = FARTHEST * 128 * 4 ** 38
        self.assertEqual(reckoned(form, [], [], [])[38:], [top, top * 33 // 100])

    def test_table(self):
        for at, expected in ((-FARTHEST, 0), (0, 0), (99, 0), (100, 7), (101, 7), (109, 7), (110, 8), (199, 16),
                             (200, -50), (201, -50), (204, -50), (205, -49), (299, -31), (300, 5), (301, 6),
                             (FARTHEST, FARTHEST - 295)):
            with self.subTest(at=at):
                self.check(("table", 0, paper("one")), expected, at)

    def test_a_table_far_above_its_bounds(self):
        form = form_of([number(FARTHEST), add(line(0), line(0), line(0)), ("table", 0, line(1)),
                        ("table", 0, ("take", number(0), line(1)))], [TABLE], 0, 0)
        self.check_lines(reckoned(form, [], [], []), [FARTHEST, 3 * FARTHEST, 3 * FARTHEST - 295, 0])

    def test_each_of_five_tables(self):
        tables = [((0, 10 * k, k),) for k in range(5)]
        form = form_of([("table", k, number(1000)) for k in range(5)], tables, 0, 0)
        self.check_lines(reckoned(form, [], [], []), [0, 20, 40, 60, 80])

    def test_a_table_of_a_table(self):
        form = form_of([("table", 1, ("table", 0, paper("one")))], [((0, 5, 10),), ((10, 100, 50),)], 0, 0)
        for at, expected in ((-1, 0), (0, 0), (49, 0), (50, 100), (60, 100), (70, 101)):
            with self.subTest(at=at):
                self.check_lines(reckoned(form, [("one", at)], [], []), [expected])

    def test_where(self):
        for one, expected in ((-FARTHEST, 33), (-1, 33), (0, 33), (1, 22), (2, 22), (FARTHEST, 22)):
            with self.subTest(one=one):
                self.check(("where", paper("one"), number(22), number(33)), expected, one)

    def test_choose(self):
        self.check(("choose", 0, number(22), number(33)), 22, taken=False)
        self.check(("choose", 0, number(22), number(33)), 33, taken=True)

    def test_each_of_eight_choices(self):
        form = form_of([("choose", k, number(10 + k), number(20 + k)) for k in range(8)], [], 8, 0)
        for at in range(8):
            taken = [k == at for k in range(8)]
            with self.subTest(at=at):
                self.check_lines(reckoned(form, [], [], taken), [20 + k if k == at else 10 + k for k in range(8)])

    def test_rules_in_one_another(self):
        rule = ("where", ("take", paper("one"), paper("other")),
                ("most", ("part", paper("one"), 10), ("table", 0, paper("one"))),
                ("choose", 0, ("least", paper("one"), number(-4)), ("add", paper("other"), earlier(1))))
        self.check(rule, 40, one=400, other=500, taken=True, ahead=(9, -460))
        self.check(rule, -4, one=400, other=500, taken=False, ahead=(9, -460))
        self.check(rule, 105, one=400, other=399)
        self.check(rule, 25, one=250, other=0)
        self.check(rule, 15, one=150, other=-7)


class TestReckoned(YearTest):
    FORM = form_of([paper("wages"), ("choose", 0, line(0), ("part", line(0), 50)), add(line(1), earlier(2))], [], 2, 2)

    def test_a_year(self):
        told = self.told(reckoned, self.FORM, [("wages", 301), ("rent", 5)], [], [False, False])
        self.check_lines(told, [301, 301, 301])
        told = self.told(reckoned, self.FORM, [("rent", 5), ("wages", 301)], [1, 2, 1000], [True, False])
        self.check_lines(told, [301, 150, 1150])
        self.check_lines(self.told(reckoned, self.FORM, [], [0, 0, 0], [True, True]), [0, 0, 0])

    def test_lines_in_an_order_that_is_not_theirs(self):
        form = form_of([add(line(3), line(1)), add(line(2), ONE), paper("a"), ("add", line(1), line(2))], [], 0, 0)
        self.check_lines(self.told(reckoned, form, [("a", 5)], [], []), [17, 6, 5, 11])

    def test_a_chain_of_forty(self):
        form = form_of([add(line(k + 1), number(1)) for k in range(39)] + [paper("a")], [], 0, 0)
        self.check_lines(self.told(reckoned, form, [("a", 5)], [], []), list(range(44, 4, -1)))

    def test_choices_as_a_list_and_as_a_tuple(self):
        for taken in ([True, False], (True, False)):
            self.check_lines(self.told(reckoned, self.FORM, [("wages", 9)], [], taken), [9, 4, 4])
        none = form_of([ONE], [], 0, 0)
        for taken in ([], ()):
            self.check_lines(self.told(reckoned, none, [], [], taken), [1])

    def test_numbers_at_the_bounds(self):
        for n in (-FARTHEST, FARTHEST):
            self.check_lines(self.told(reckoned, self.FORM, [("wages", n)], [], [False, True]), [n, n, n])

    def test_words_of_each_length(self):
        for length in range(1, 9):
            word = "abcdefgh"[:length]
            form = form_of([paper(word)], [], 0, 0)
            self.check_lines(self.told(reckoned, form, [(word, 6)], [], []), [6])

    def test_papers_that_no_line_names(self):
        form = form_of([paper("a")], [], 0, 0)
        pairs = [(word, 1000) for word in ("b", "aa", "ab", "ba", "z", "abcdefgh")]
        self.check_lines(self.told(reckoned, form, pairs, [], []), [0])
        self.check_lines(self.told(reckoned, form, pairs + [("a", 3)], [], []), [3])

    def test_many_papers(self):
        letters = "abcdefghijklmnopqrstuvwxyz"
        form = form_of([paper(letter) for letter in letters], [], 0, 0)
        pairs = [(letter, k) for k, letter in enumerate(letters)]
        self.check_lines(self.told(reckoned, form, pairs[::-1], [], []), list(range(26)))

    def test_a_word_that_is_none(self):
        for word in NO_WORDS:
            self.refused(NoPaper, reckoned, self.FORM, [(word, 1)], [], [False, False])
            self.refused(NoPaper, reckoned, self.FORM, [("wages", 1), (word, 1)], [], [False, False])
            self.refused(NoPaper, reckoned, self.FORM, [(word, 1), ("wages", 1)], [1, 2, 3], [False, False])

    def test_a_number_that_is_none(self):
        for n in NO_NUMBERS:
            self.refused(NoPaper, reckoned, self.FORM, [("wages", n)], [], [False, False])
            self.refused(NoPaper, reckoned, self.FORM, [("a", 1), ("wages", n)], [], [False, False])
            self.refused(NoPaper, reckoned, self.FORM, [("a", n), ("wages", 1)], [], [False, False])
            self.refused(NoPaper, reckoned, self.FORM, [("Wages", n)], [], [False, False])

    def test_a_word_and_a_number_the_other_way_round(self):
        self.refused(NoPaper, reckoned, self.FORM, [(5, "wages")], [], [False, False])

    def test_one_word_twice(self):
        for word in ("wages", "other"):
            for one, other in ((5, 5), (5, 6), (0, 0), (0, 1)):
                self.refused(NoPaper, reckoned, self.FORM, [(word, one), (word, other)], [], [False, False])
                self.refused(NoPaper, reckoned, self.FORM, [(word, one), ("a", 3), (word, other)], [], [False, False])

    def test_words_that_are_nearly_alike_are_two(self):
        pairs = [("wages", 1), ("wage", 2), ("wagess", 3), ("ages", 4)]
        self.check_lines(self.told(reckoned, self.FORM, pairs, [], [False, False]), [1, 1, 1])

    def test_too_few_or_too_many_choices(self):
        for many in (0, 1, 3, 4, 8):
            for kind in (list, tuple):
                self.refused(NoChoice, reckoned, self.FORM, [], [], kind([False] * many))
        none = form_of([ONE], [], 0, 0)
        for taken in ([False], (True,), [None]):
            self.refused(NoChoice, reckoned, none, [], [], taken)

    def test_choices_that_are_no_truths(self):
        for odd in NO_TRUTHS:
            for taken in ([odd, False], [True, odd], [odd, odd], (odd, True), (False, odd)):
                self.refused(NoChoice, reckoned, self.FORM, [], [], taken)

    def test_choices_that_no_line_names_must_be_truths_too(self):
        form = form_of([ONE], [], 2, 0)
        self.refused(NoChoice, reckoned, form, [], [], [False, 1])
        self.refused(NoChoice, reckoned, form, [], [], [False])
        self.check_lines(reckoned(form, [], [], [False, True]), [1])

    def test_choices_that_are_no_list(self):
        for taken in (None, True, 0, 2, "ab", "", {}, {0: True, 1: False}):
            self.refused(NoChoice, reckoned, self.FORM, [], [], taken)

    def test_both_faults(self):
        for pairs in ([("Wages", 1)], [("wages", None)], [("wages", True)], [("a", 1), ("a", 1)]):
            for taken in ([], [False], [False, 0], [None, None], [False] * 3, None):
                self.refused(NoPaper, reckoned, self.FORM, pairs, [], taken)

    def test_things_several_hundred_deep(self):
        deep = deep_list(900)
        for refusal, pairs, taken in ((NoPaper, [(deep, 1)], [False, False]), (NoPaper, [("a", deep)], [False, False]),
                                      (NoChoice, [], [False, deep]), (NoChoice, [], [deep])):
            with self.assertRaises(refusal):
                reckoned(self.FORM, pairs, [], taken)

    def test_a_told_list_is_the_askers_own(self):
        ahead = [1, 2, 3]
        form = form_of([earlier(0), earlier(1), earlier(2)], [], 0, 0)
        first = reckoned(form, [], ahead, [])
        self.assertIsNot(first, ahead)
        second = reckoned(form, [], first, [])
        first[0] = 99
        first.append(5)
        ahead[1] = 77
        self.assertEqual(second, [1, 2, 3])
        self.assertEqual(reckoned(form, [], [], []), [0, 0, 0])
        self.assertEqual(first, [99, 2, 3, 5])

    def test_told_again_the_same(self):
        form = form_of([paper("a"), add(line(0), earlier(0))], [], 1, 0)
        for pairs, ahead, taken in (([("a", 5)], [1, 2], [True]), ([], [], (False,))):
            first = reckoned(form, pairs, ahead, taken)
            expected = list(first)
            first[0] = "other"
            first.pop()
            self.assertEqual(reckoned(form, pairs, ahead, taken), expected)

    def test_a_year_leaves_nothing_for_the_next(self):
        self.assertEqual(reckoned(self.FORM, [("wages", 301)], [1, 2, 3], [True, True]), [301, 150, 153])
        self.assertEqual(reckoned(self.FORM, [], [], [False, False]), [0, 0, 0])
        self.assertEqual(reckoned(self.FORM, [("wages", 301)], [1, 2, 3], [True, True]), [301, 150, 153])

    def test_arguments_by_name(self):
        told = reckoned(taken=[True, False], earlier=[1, 2, 3], pairs=[("wages", 10)], form=self.FORM)
        self.assertEqual(told, [10, 5, 8])


class TestHistory(YearTest):
    FORM = form_of([add(earlier(0), paper("a")), ("choose", 0, earlier(1), add(line(0), earlier(2))), line(1)],
                   [], 1, 2)

    def check(self, form, years, taken, expected):
        told = self.told(history, form, years, taken)
        self.assertIs(type(told), list)
        self.assertEqual(len(told), len(expected))
        for lines, row in zip(told, expected):
            self.check_lines(lines, row)

    def test_no_year(self):
        self.check(self.FORM, [], [], [])
        self.check(self.FORM, [], (), [])

    def test_one_year(self):
        self.check(self.FORM, [[("a", 5)]], [[False]], [[5, 0, 0]])
        self.check(self.FORM, [[("a", 5)]], [(True,)], [[5, 5, 5]])

    def test_years_one_behind_the_other(self):
        years = [[("a", 5)], [], [("b", 9), ("a", 10)], [("a", -1)]]
        self.check(self.FORM, years, [[True], [False], [True], [True]],
                   [[5, 5, 5], [5, 5, 5], [15, 20, 20], [14, 34, 34]])

    def test_rows_as_lists_and_as_tuples(self):
        expected = [[0, 0, 0], [7, 7, 7]]
        for taken in ([[False], [True]], [(False,), (True,)], ((False,), (True,)), ([False], [True]),
                      [(False,), [True]]):
            self.check(self.FORM, [[], [("a", 7)]], taken, expected)

    def test_the_lines_ahead_are_those_of_one_year_before(self):
        form = form_of([paper("a"), earlier(0), earlier(1)], [], 0, 0)
        self.check(form, [[("a", k)] for k in (1, 2, 3, 4)], [[]] * 4, [[1, 0, 0], [2, 1, 0], [3, 2, 1], [4, 3, 2]])

    def test_lines_that_count_the_years(self):
        form = form_of([add(earlier(0), ONE)], [], 0, 0)
        self.check(form, [[]] * 300, [[]] * 300, [[k] for k in range(1, 301)])

    def test_one_word_in_two_years(self):
        form = form_of([paper("a")], [], 0, 0)
        self.check(form, [[("a", 1)], [("a", 2)]], [[], []], [[1], [2]])

    def test_the_first_year_that_cannot_be_decides(self):
        good, bad = [("a", 1)], [("A", 1)]
        for refusal, years, taken in (
            (NoPaper, [bad, good], [[False], [0]]), (NoPaper, [bad, good], [[0], [0]]),
            (NoPaper, [bad, bad], [[0], [0]]), (NoPaper, [good, bad], [[False], [False]]),
            (NoPaper, [good, bad], [[False], [0]]), (NoPaper, [good, good, bad], [[False], [False], [False]]),
            (NoChoice, [good, bad], [[0], [False]]), (NoChoice, [good, bad], [[0], [0]]),
            (NoChoice, [good, bad], [[], [False]]), (NoChoice, [good, good], [[False], [None]]),
            (NoChoice, [good, good, bad], [[False], [True, True], [False]]),
            (NoChoice, [good, good, good], [[False], [True], ["a"]]),
        ):
            with self.subTest(years=years, taken=taken):
                self.refused(refusal, history, self.FORM, years, taken)

    def test_each_year_is_refused_as_a_year_alone_is(self):
        for at in range(4):
            for refusal, pairs, row in ((NoPaper, [("a", 1), ("a", 2)], [False]), (NoPaper, [("a", True)], [False]),
                                        (NoChoice, [], [1]), (NoChoice, [], None), (NoChoice, [], [False, False])):
                years, taken = [[] for _ in range(4)], [[False] for _ in range(4)]
                years[at], taken[at] = pairs, row
                with self.subTest(at=at, pairs=pairs, row=row):
                    self.refused(refusal, history, self.FORM, years, taken)

    def test_told_lists_are_the_askers_own(self):
        form = form_of([add(earlier(0), paper("a")), number(3)], [], 0, 0)
        years, taken = [[("a", 1)], [("a", 2)], []], [[], [], []]
        told = history(form, years, taken)
        self.assertEqual(told, [[1, 3], [3, 3], [3, 3]])
        again = history(form, years, taken)
        told[0][0] = 50
        told[1].clear()
        told.append("more")
        years[0].append(("b", 5))
        self.assertEqual(again, [[1, 3], [3, 3], [3, 3]])
        self.assertEqual(history(form, years, taken), [[1, 3], [3, 3], [3, 3]])
        lists = again + history(form, years, taken)
        self.assertEqual(len({id(lines) for lines in lists}), 6)

    def test_years_by_chance(self):
        for rng in draws("years", 400):
            form = form_of(*drawn_parts(rng))
            count = rng.randrange(4)
            years = [drawn_pairs(rng) for _ in range(count)]
            taken = [drawn_taken(rng, form[2]) for _ in range(count)]
            expected = plain_history(form, years, taken)
            self.check(form, years, taken, expected)
            ahead = []
            for year in range(count):
                ahead = self.told(reckoned, form, years[year], ahead, taken[year])
                self.check_lines(ahead, expected[year])


class TestHanging(YearTest):
    def check(self, lines, count, year, word, expected, choices=0, tables=()):
        form = form_of(lines, list(tables), choices, 0)
        self.check_pairs(hanging, (form, count, year, word), expected)

    def check_choice(self, lines, count, year, choice, expected, choices=1, tables=()):
        form = form_of(lines, list(tables), choices, 0)
        self.check_pairs(hanging_choice, (form, count, year, choice), expected)

    def check_pairs(self, function, parts, expected):
        told = self.told(function, *parts)
        self.assertIs(type(told), list)
        self.assertEqual(told, expected)
        for pair in told:
            self.assertIs(type(pair), tuple)
            self.assertEqual([type(part) for part in pair], [int, int])
        told.append((99, 99))
        told[0] = None
        self.assertEqual(function(*parts), expected)

    def test_a_line_that_names_the_paper(self):
        self.check([paper("a")], 1, 0, "a", [(0, 0)])
        self.check([ONE, paper("a"), paper("b"), add(paper("b"), paper("a"))], 1, 0, "a", [(0, 1), (0, 3)])
        self.check([ONE, paper("a"), paper("b"), add(paper("b"), paper("a"))], 1, 0, "b", [(0, 2), (0, 3)])

    def test_a_part_that_is_never_reckoned_by(self):
        for rule in (("where", number(1), ONE, paper("a")), ("where", number(0), paper("a"), ONE),
                     ("part", paper("a"), 0), ("take", paper("a"), paper("a")), ("choose", 0, ONE, paper("a")),
                     ("choose", 0, paper("a"), ONE), ("where", paper("a"), ONE, ONE), ("table", 0, paper("a")),
                     ("least", number(-5), paper("a")), ("most", paper("a"), ONE)):
            with self.subTest(rule=rule):
                self.check([ONE, rule], 1, 0, "a", [(0, 1)], 1, [TABLE])

    def test_a_line_that_names_such_a_line(self):
        self.check([line(1), paper("a")], 1, 0, "a", [(0, 0), (0, 1)])
        self.check([line(2), paper("a"), line(3), line(1), ONE], 1, 0, "a", [(0, 0), (0, 1), (0, 2), (0, 3)])
        self.check([paper("a"), line(0), ONE, line(2), add(line(2), line(1))], 1, 0, "a", [(0, 0), (0, 1), (0, 4)])
        self.check([paper("a"), ("where", ONE, ONE, ("part", line(0), 0))], 1, 0, "a", [(0, 0), (0, 1)])

    def test_chains_of_forty(self):
        chain = [line(k + 1) for k in range(39)] + [paper("a")]
        self.check(chain, 1, 0, "a", [(0, k) for k in range(40)])
        chain = [paper("a")] + [line(k) for k in range(39)]
        self.check(chain, 1, 0, "a", [(0, k) for k in range(40)])

    def test_a_line_that_is_named_hangs_on_nothing_of_those_that_name_it(self):
        self.check([ONE, add(line(0), paper("a")), earlier(0)], 3, 0, "a", [(0, 1)])

    def test_years_without_earlier_stand_alone(self):
        for year in range(4):
            self.check([line(1), paper("a")], 4, year, "a", [(year, 0), (year, 1)])

    def test_earlier_over_several_years(self):
        self.check([add(paper("a"), earlier(0))], 4, 1, "a", [(1, 0), (2, 0), (3, 0)])
        self.check([paper("a"), earlier(0), earlier(1)], 5, 1, "a", [(1, 0), (2, 1), (3, 2)])
        self.check([paper("a"), earlier(0), earlier(1)], 3, 1, "a", [(1, 0), (2, 1)])
        self.check([paper("a"), earlier(0), line(1)], 3, 0, "a", [(0, 0), (1, 1), (1, 2)])
        self.check([line(2), paper("a"), earlier(1), earlier(0)], 4, 0, "a", [(0, 1), (1, 0), (1, 2), (2, 3)])
        self.check([earlier(1), earlier(2), paper("a")], 4, 0, "a", [(0, 2), (1, 1), (2, 0)])

    def test_the_paper_of_a_later_year_is_another_one(self):
        # Line 0 names the paper of each year, but hangs on that of year 1 there alone.
        self.check([paper("a"), earlier(0)], 4, 1, "a", [(1, 0), (2, 1)])

    def test_earlier_in_a_part_that_is_never_reckoned_by(self):
        self.check([paper("a"), ("where", ONE, ONE, ("part", earlier(0), 0))], 2, 0, "a", [(0, 0), (1, 1)])

    def test_a_gap_of_one_line_ends_it(self):
        self.check([paper("a"), earlier(2), ONE, earlier(0)], 4, 0, "a", [(0, 0), (1, 3)])

    def test_years_ahead_of_that_one(self):
        for year in range(5):
            told = [(now, 0) for now in range(year, 5)]
            self.check([add(paper("a"), earlier(0))], 5, year, "a", told)
            self.check_choice([("choose", 0, ONE, earlier(0))], 5, year, 0, told)

    def test_a_word_that_no_line_names(self):
        for word in ("b", "aa", "number", "line", "paper", "abcdefgh"):
            self.check([paper("a"), add(line(0), earlier(1))], 3, 0, word, [])
        self.check([ONE], 3, 0, "a", [])

    def test_a_word_that_is_none(self):
        for word in NO_WORDS:
            self.check([paper("a"), line(0), ("choose", 0, line(1), earlier(1)), ONE], 3, 0, word, [], 1)
        self.assertEqual(hanging(form_of([paper("a")], [], 0, 0), 1, 0, deep_list(900)), [])

    def test_a_year_that_is_not_there(self):
        for year in ODD + (-1, -2, 3, 4, 10 ** 5000, -10 ** 5000):
            self.check([add(paper("a"), earlier(0))], 3, year, "a", [])
            self.check_choice([("choose", 0, ONE, earlier(0))], 3, year, 0, [])

    def test_a_count_of_no_years(self):
        for count in ODD + (0, -1, -10 ** 5000):
            for year in (0, 1, -1):
                self.check([add(paper("a"), earlier(0))], count, year, "a", [])
                self.check_choice([("choose", 0, ONE, earlier(0))], count, year, 0, [])

    def test_more_years_than_a_file_has(self):
        self.check([add(paper("a"), earlier(0))], 30, 8, "a", [(now, 0) for now in range(8, 30)])
        self.check_choice([("choose", 0, ONE, earlier(0))], 30, 8, 0, [(now, 0) for now in range(8, 30)])

    def test_so_many_years_that_nothing_hangs_in_most(self):
        self.check([paper("a"), earlier(0)], 10 ** 12, 5, "a", [(5, 0), (6, 1)])
        self.check_choice([("choose", 0, ONE, ONE)], 10 ** 12, 5, 0, [(5, 0)])

    def test_pairs_rise_as_numbers(self):
        lines = [paper("a")] * 12
        self.check(lines, 12, 10, "a", [(10, k) for k in range(12)])
        self.check([earlier(11)] + lines[1:], 12, 9, "a", [(9, k) for k in range(1, 12)] + [(10, 0)])

    def test_a_choice(self):
        self.check_choice([("choose", 0, ONE, ONE)], 1, 0, 0, [(0, 0)])
        lines = [("choose", 1, ONE, ONE), line(0), ("choose", 0, ONE, ONE), earlier(1), add(line(1), earlier(2))]
        self.check_choice(lines, 3, 0, 1, [(0, 0), (0, 1), (0, 4), (1, 3)], 2)
        self.check_choice(lines, 3, 0, 0, [(0, 2), (1, 4)], 2)
        self.check_choice(lines, 3, 1, 0, [(1, 2), (2, 4)], 2)
        self.check_choice(lines, 3, 2, 0, [(2, 2)], 2)

    def test_a_choice_in_a_part_that_is_never_reckoned_by(self):
        choice = ("choose", 0, ONE, number(2))
        for rule in (("where", number(1), ONE, choice), ("part", choice, 0), ("choose", 1, ONE, choice),
                     ("take", choice, choice), ("choose", 0, ONE, ONE)):
            with self.subTest(rule=rule):
                self.check_choice([ONE, rule, line(1)], 2, 0, 0, [(0, 1), (0, 2)], 2)

    def test_a_choice_that_no_line_names(self):
        self.check_choice([("choose", 1, ONE, ONE), earlier(0)], 3, 0, 0, [], 2)
        self.check_choice([ONE], 3, 0, 0, [], 8)

    def test_a_choice_that_is_none(self):
        lines = [("choose", 0, ONE, ONE), ("choose", 1, ONE, ONE), paper("a")]
        for choice in ODD + (-1, -2, 2, 3, 8, 10 ** 5000, "0", (0,), [0]):
            self.check_choice(lines, 3, 0, choice, [], 2)
        for truth in (True, False):
            self.check_choice(lines, 3, 0, truth, [], 2)

    def test_tables_and_lines_of_that_number_are_no_choices(self):
        lines = [("table", 1, ONE), line(0), line(1), earlier(1), paper("choose"), ("choose", 0, ONE, number(1))]
        self.check_choice(lines, 2, 0, 1, [], 2, [TABLE, TABLE])

    def test_arguments_by_name(self):
        form = form_of([paper("a"), ("choose", 0, ONE, ONE)], [], 1, 0)
        self.assertEqual(hanging(word="a", year=1, count=2, form=form), [(1, 0)])
        self.assertEqual(hanging_choice(choice=0, year=1, count=2, form=form), [(1, 1)])

    def test_by_chance(self):
        for rng in draws("hanging", 500):
            form = form_of(*drawn_parts(rng))
            count = rng.randrange(1, 5)
            year = rng.randrange(count)
            word = rng.choice(WORDS)
            self.check_pairs(hanging, (form, count, year, word), plain_hanging(form, count, year, "paper", word))
            for choice in range(form[2]):
                expected = plain_hanging(form, count, year, "choose", choice)
                self.check_pairs(hanging_choice, (form, count, year, choice), expected)

    def test_what_does_not_hang_does_not_change(self):
        for rng in draws("unchanged", 300):
            form = form_of(*drawn_parts(rng))
            count = rng.randrange(1, 4)
            years = [drawn_pairs(rng) for _ in range(count)]
            taken = [drawn_taken(rng, form[2]) for _ in range(count)]
            year, word = rng.randrange(count), rng.choice(WORDS)
            before = history(form, years, taken)
            years[year] = [pair for pair in years[year] if pair[0] != word] + [(word, rng.randrange(-300, 300))]
            self.check_changes(before, history(form, years, taken), hanging(form, count, year, word))
            if form[2]:
                choice = rng.randrange(form[2])
                before = history(form, years, taken)
                taken[year][choice] = not taken[year][choice]
                after = history(form, years, taken)
                self.check_changes(before, after, hanging_choice(form, count, year, choice))

    def check_changes(self, before, after, hung):
        for year, (one, other) in enumerate(zip(before, after)):
            for k, (value, now) in enumerate(zip(one, other)):
                if value != now:
                    self.assertIn((year, k), hung)


if __name__ == "__main__":
    unittest.main()
