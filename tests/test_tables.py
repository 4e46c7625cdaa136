"""Point 2: what a table is, and what it tells at a number."""

import copy
import itertools
import unittest

from formlines.tables import at_number, is_table

FARTHEST = 1000000000

# One thing of each kind that can't be a number, a row or a table.
ODD = (None, True, False, "", "1", "word", (), [], (1,), [1], ((0, 0, 0),), [(0, 0, 0)], ("number", 1))


def rows_of(count):
    return tuple((10 * k, k, k) for k in range(count))


class TestIsTable(unittest.TestCase):
    def check(self, thing, expected):
        before = copy.deepcopy(thing)
        self.assertIs(is_table(thing), expected, thing)
        self.assertIs(is_table(thing), expected, thing)
        self.assertEqual(thing, before)

    def test_one_to_twenty_rows(self):
        for count in range(1, 21):
            with self.subTest(count=count):
                self.check(rows_of(count), True)

    def test_no_rows_and_more_than_twenty(self):
        self.check((), False)
        for count in (21, 22, 40, 100):
            with self.subTest(count=count):
                self.check(rows_of(count), False)

    def test_start_at_the_bounds(self):
        self.check(((-FARTHEST, 0, 0),), True)
        self.check(((FARTHEST, 0, 0),), True)
        self.check(((-FARTHEST, 0, 0), (FARTHEST, 0, 0)), True)

    def test_start_beyond_the_bounds(self):
        self.check(((-FARTHEST - 1, 0, 0),), False)
        self.check(((FARTHEST + 1, 0, 0),), False)
        self.check(((0, 0, 0), (FARTHEST + 1, 0, 0)), False)
        self.check(((-10 ** 30, 0, 0),), False)
        self.check(((10 ** 30, 0, 0),), False)

    def test_plus_at_the_bounds(self):
        self.check(((0, -FARTHEST, 0),), True)
        self.check(((0, FARTHEST, 0),), True)

    def test_plus_beyond_the_bounds(self):
        self.check(((0, -FARTHEST - 1, 0),), False)
        self.check(((0, FARTHEST + 1, 0),), False)
        self.check(((0, 0, 0), (1, FARTHEST + 1, 0)), False)
        self.check(((0, 10 ** 30, 0),), False)

    def test_percent(self):
        for percent in (0, 1, 50, 99, 100):
            with self.subTest(percent=percent):
                self.check(((0, 0, percent),), True)
        for percent in (-FARTHEST, -100, -1, 101, 102, 200, FARTHEST):
            with self.subTest(percent=percent):
                self.check(((0, 0, percent),), False)
                self.check(((0, 0, 0), (1, 0, percent)), False)

    def test_plus_and_percent_may_fall_and_be_alike(self):
        self.check(((0, 9, 90), (1, 8, 80), (2, 8, 80)), True)

    def test_starts_that_rise_by_one(self):
        self.check(((0, 0, 0), (1, 0, 0)), True)
        self.check(((-2, 0, 0), (-1, 0, 0), (0, 0, 0), (1, 0, 0)), True)

    def test_starts_that_are_alike(self):
        self.check(((0, 0, 0), (0, 0, 0)), False)
        self.check(((5, 1, 2), (5, 3, 4)), False)
        self.check(((0, 0, 0), (1, 0, 0), (1, 0, 0)), False)
        self.check(((0, 0, 0), (0, 0, 0), (1, 0, 0)), False)

    def test_starts_that_fall(self):
        self.check(((1, 0, 0), (0, 0, 0)), False)
        self.check(((0, 0, 0), (5, 0, 0), (4, 0, 0)), False)
        self.check(((5, 0, 0), (4, 0, 0), (6, 0, 0)), False)
        self.check(((0, 0, 0), (5, 0, 0), (0, 0, 0)), False)
        self.check(((0, 0, 0), (-1, 0, 0)), False)

    def test_a_start_that_falls_at_each_place_of_a_long_table(self):
        for at in range(1, 20):
            rows = list(rows_of(20))
            rows[at] = (rows[at - 1][0] - 1, 0, 0)
            with self.subTest(at=at):
                self.check(tuple(rows), False)

    def test_a_list_in_place_of_the_tuple(self):
        self.check([(0, 0, 0)], False)
        self.check([], False)
        self.check(list(rows_of(20)), False)

    def test_a_list_in_place_of_a_row(self):
        self.check(([0, 0, 0],), False)
        self.check(((0, 0, 0), [1, 0, 0]), False)
        self.check(([0, 0, 0], (1, 0, 0)), False)

    def test_a_row_of_another_length(self):
        self.check(((),), False)
        self.check(((0,),), False)
        self.check(((0, 0),), False)
        self.check(((0, 0, 0, 0),), False)
        self.check(((0, 0, 0), (1, 0)), False)
        self.check(((0, 0, 0), (1, 0, 0, 0)), False)

    def test_something_odd_in_place_of_a_row(self):
        for odd in (None, True, False, 0, 1, "", "abc", "0", (), [], ((0, 0, 0),)):
            with self.subTest(odd=odd):
                self.check((odd,), False)
                self.check(((0, 0, 0), odd), False)
                self.check((odd, (0, 0, 0)), False)

    def test_something_odd_in_each_place_of_a_row(self):
        for odd in ODD:
            for at in range(3):
                row = [0, 0, 0]
                row[at] = odd
                with self.subTest(odd=odd, at=at):
                    self.check((tuple(row),), False)
                    self.check(((-5, 0, 0), tuple(row)), False)
                    self.check((tuple(row), (5, 0, 0)), False)

    def test_a_truth_is_none_even_where_its_like_has_just_been_asked(self):
        self.check(((1, 1, 1),), True)
        self.check(((True, 1, 1),), False)
        self.check(((1, True, 1),), False)
        self.check(((1, 1, True),), False)
        self.check(((0, False, 0),), False)
        self.check(((0, 0, 0),), True)

    def test_a_thing_that_is_no_tuple_at_all(self):
        for thing in (None, True, False, 0, 1, -1, 10 ** 30, "", "abc", "(0, 0, 0)", [], [1, 2, 3], [[0, 0, 0]]):
            with self.subTest(thing=thing):
                self.check(thing, False)

    def test_a_row_alone_is_no_table(self):
        self.check((0, 0, 0), False)
        self.check((0,), False)

    def test_a_rule_is_no_table(self):
        self.check(("number", 1), False)
        self.check(("add", ("number", 1), ("number", 2)), False)

    def test_things_that_are_several_hundred_deep(self):
        for depth in (300, 600, 900):
            in_tuples, in_lists = 0, 0
            for _ in range(depth):
                in_tuples, in_lists = (in_tuples,), [in_lists]
            for thing in (in_tuples, in_lists, (in_tuples,), (in_lists,), ((0, in_lists, 0),), ((0, 0, in_tuples),)):
                self.assertIs(is_table(thing), False)

    def test_small_things_of_all_kinds_raise_nothing(self):
        atoms = (None, True, 0, 1, "a", (), [], (0, 0, 0), (1, 0, 0), [2, 0, 0])
        for length in range(4):
            for thing in itertools.product(atoms, repeat=length):
                expected = thing in (((0, 0, 0),), ((1, 0, 0),), ((0, 0, 0), (1, 0, 0)))
                self.assertIs(is_table(thing), expected, thing)
                self.assertIs(is_table((thing,)), self.row_expected(thing), thing)

    def row_expected(self, thing):
        return len(thing) == 3 and all(part in (0, 1) and isinstance(part, int) and part is not True for part in thing)


class TestAtNumber(unittest.TestCase):
    def check(self, table, number, expected):
        told = at_number(table, number)
        self.assertEqual(told, expected, (table, number))
        self.assertIsInstance(told, int)
        self.assertNotIsInstance(told, bool)

    def test_below_the_first_start(self):
        table = ((100, 7, 10), (200, 50, 20))
        for number in (99, 98, 0, -1, -100, -FARTHEST, -FARTHEST - 1, -10 ** 30):
            with self.subTest(number=number):
                self.check(table, number, 0)

    def test_at_a_start(self):
        table = ((100, 7, 10), (200, 50, 20), (300, -5, 30))
        self.check(table, 100, 7)
        self.check(table, 200, 50)
        self.check(table, 300, -5)

    def test_just_ahead_of_a_start_and_just_behind_it(self):
        table = ((100, 7, 100), (200, 50, 100), (300, -5, 100))
        self.check(table, 99, 0)
        self.check(table, 101, 8)
        self.check(table, 199, 106)
        self.check(table, 201, 51)
        self.check(table, 299, 149)
        self.check(table, 301, -4)

    def test_between_two_starts(self):
        table = ((100, 7, 10), (200, 50, 20), (300, -5, 30))
        self.check(table, 150, 12)
        self.check(table, 250, 60)

    def test_behind_the_last_start(self):
        table = ((100, 7, 10), (200, 50, 20), (300, -5, 30))
        self.check(table, 1000, 205)

    def test_starts_that_rise_by_one(self):
        table = ((0, 10, 0), (1, 20, 0), (2, 30, 0))
        for number, expected in ((-1, 0), (0, 10), (1, 20), (2, 30), (3, 30)):
            with self.subTest(number=number):
                self.check(table, number, expected)

    def test_the_number_less_its_start_counts_not_the_number(self):
        self.check(((100, 0, 50),), 300, 100)
        self.check(((-100, 0, 50),), 100, 100)

    def test_just_the_last_row_counts(self):
        self.check(((0, 1000, 100), (10, 1, 0)), 50, 1)

    def test_the_ends_of_percent(self):
        self.check(((0, 3, 0),), 12345, 3)
        self.check(((0, 3, 100),), 12345, 12348)
        self.check(((0, 3, 1),), 12345, 126)
        self.check(((0, 3, 99),), 12345, 12224)

    def test_a_part_that_does_not_come_out_even_is_rounded_down(self):
        for number, expected in ((0, 0), (1, 0), (2, 0), (3, 0), (4, 1), (5, 1), (7, 1), (8, 2)):
            with self.subTest(number=number):
                self.check(((0, 0, 25),), number, expected)
        self.check(((0, 0, 99),), 1, 0)
        self.check(((0, 0, 99),), 101, 99)
        self.check(((0, 0, 33),), 299, 98)

    def test_the_part_is_rounded_ahead_of_a_plus_below_nought(self):
        # 75 hundredths come to 0, so that plus stays; a sum cut towards nought would be one more.
        self.check(((0, -10, 75),), 1, -10)
        self.check(((0, -1, 99),), 1, -1)
        self.check(((0, -3, 50),), 3, -2)

    def test_negative_starts_and_numbers(self):
        table = ((-300, -50, 10), (-200, -20, 50), (-100, 5, 33))
        for number, expected in (
            (-301, 0), (-300, -50), (-299, -50), (-291, -50), (-290, -49), (-201, -41),
            (-200, -20), (-199, -20), (-198, -19), (-101, 29), (-100, 5), (-99, 5), (-97, 5), (-96, 6), (0, 38),
        ):
            with self.subTest(number=number):
                self.check(table, number, expected)

    def test_far_beyond_the_bounds(self):
        table = ((-FARTHEST, 1, 1), (FARTHEST, 2, 100))
        self.check(table, -10 ** 30, 0)
        self.check(table, -FARTHEST - 1, 0)
        self.check(table, -FARTHEST, 1)
        self.check(table, FARTHEST - 1, 20000000)
        self.check(table, FARTHEST, 2)
        self.check(table, FARTHEST + 1, 3)
        self.check(table, 10 ** 30, 10 ** 30 - FARTHEST + 2)

    def test_large_numbers_lose_nothing(self):
        self.check(((0, 0, 33),), 10 ** 20 + 7, 33 * 10 ** 18 + 2)
        self.check(((0, 0, 1),), 10 ** 40 - 1, 10 ** 38 - 1)

    def test_each_row_of_twenty(self):
        table = tuple((10 * k, 1000 * k, 10) for k in range(20))
        self.check(table, -1, 0)
        for number in range(400):
            row = min(number // 10, 19)
            self.check(table, number, 1000 * row + (number - 10 * row) // 10)

    def test_the_same_table_tells_the_same_again(self):
        table = ((0, 1, 10), (100, 2, 20))
        self.assertEqual([at_number(table, n) for n in (150, 50, 150, -1, 50)], [12, 6, 12, 0, 6])
        self.assertEqual(table, ((0, 1, 10), (100, 2, 20)))


if __name__ == "__main__":
    unittest.main()
