"""Points 4 to 6: forms, the rings of lines, and their order."""

import copy
import unittest

from formlines.errors import FormError, NoForm, NoRule, NoTable, Ring
from formlines.forms import form_of, order_of, ring_of
from tests.makers import (
    ODD, add, deep_list, drawn_parts, drawn_rule, draws, earlier, line, naming, number, paper, plain_order, plain_ring,
    plain_rings,
)

TABLE = ((0, 5, 10), (100, 20, 25))
ONE = number(1)


def lines_naming(*rows):
    """Rules, each of which names just the lines of its row."""
    return [naming(*row) for row in rows]


def ones(count):
    return [ONE] * count


class FormTest(unittest.TestCase):
    def refused(self, refusal, lines, tables, choices, owed):
        before = copy.deepcopy((lines, tables, choices, owed))
        with self.assertRaises(refusal) as caught:
            form_of(lines, tables, choices, owed)
        self.assertIs(type(caught.exception), refusal)
        self.assertIsInstance(caught.exception, FormError)
        self.assertIsInstance(caught.exception, ValueError)
        self.assertEqual((lines, tables, choices, owed), before)

    def made(self, lines, tables, choices, owed):
        before = copy.deepcopy((lines, tables, choices, owed))
        form = form_of(lines, tables, choices, owed)
        self.assertEqual((lines, tables, choices, owed), before)
        self.assertIs(type(form), tuple)
        self.assertEqual([type(part) for part in form], [tuple, tuple, int, int])
        self.assertEqual(form, (tuple(lines), tuple(tables), choices, owed))
        return form


class TestWhatAFormIs(FormTest):
    def test_the_smallest_form(self):
        self.assertEqual(self.made([number(5)], [], 0, 0), ((("number", 5),), (), 0, 0))

    def test_a_form_of_all_kinds_of_parts(self):
        lines = [
            add(paper("wages"), earlier(2)),
            ("table", 1, line(0)),
            ("choose", 2, line(1), ("part", line(1), 50)),
        ]
        form = self.made(lines, [((0, 0, 0),), TABLE], 3, 2)
        self.assertEqual(form, (
            (("add", ("paper", "wages"), ("earlier", 2)),
             ("table", 1, ("line", 0)),
             ("choose", 2, ("line", 1), ("part", ("line", 1), 50))),
            (((0, 0, 0),), ((0, 5, 10), (100, 20, 25))),
            3,
            2,
        ))

    def test_each_line_and_table_is_a_tuple_in_kind(self):
        form = self.made([number(5), line(0)], [TABLE, TABLE], 1, 1)
        for part in form[0] + form[1] + form[1][0]:
            self.assertIs(type(part), tuple)

    def test_the_order_of_lines_and_tables_stays(self):
        lines = [number(k) for k in (5, 3, 9, 3)]
        tables = [((k, 0, 0),) for k in (5, 3, 9, 3)]
        form = self.made(lines, tables, 0, 0)
        self.assertEqual([rule[1] for rule in form[0]], [5, 3, 9, 3])
        self.assertEqual([table[0][0] for table in form[1]], [5, 3, 9, 3])

    def test_lists_that_are_changed_later_change_no_form(self):
        lines, tables = [number(1), number(2)], [TABLE]
        form = form_of(lines, tables, 0, 1)
        lines[0] = number(7)
        lines.append(line(9))
        tables.clear()
        self.assertEqual(form, ((("number", 1), ("number", 2)), (TABLE,), 0, 1))

    def test_a_form_is_made_anew_each_time(self):
        lines = [number(1)]
        first = form_of(lines, [], 0, 0)
        lines[0] = number(2)
        self.assertEqual(form_of(lines, [], 0, 0), ((("number", 2),), (), 0, 0))
        self.assertEqual(first, ((("number", 1),), (), 0, 0))

    def test_arguments_by_name(self):
        self.assertEqual(form_of(owed=1, choices=2, tables=[TABLE], lines=ones(2)), ((ONE, ONE), (TABLE,), 2, 1))


class TestNoTable(FormTest):
    def test_up_to_five_tables(self):
        for many in range(6):
            with self.subTest(many=many):
                self.made(ones(1), [TABLE] * many, 0, 0)

    def test_more_than_five_tables(self):
        for many in (6, 7, 20):
            with self.subTest(many=many):
                self.refused(NoTable, ones(1), [TABLE] * many, 0, 0)

    def test_a_table_that_is_none(self):
        for thing in ODD + ((0, 0, 0), [(0, 0, 0)], ((0, 0, 101),), ((0, 0, 0), (0, 0, 0)), ((0, 0, True),), ((0, 0),),
                            tuple((k, 0, 0) for k in range(21))):
            self.refused(NoTable, ones(1), [thing], 0, 0)

    def test_one_that_is_none_at_each_place(self):
        for at in range(5):
            tables = [TABLE] * 5
            tables[at] = ()
            with self.subTest(at=at):
                self.refused(NoTable, ones(1), tables, 0, 0)

    def test_a_table_of_twenty_rows(self):
        self.made(ones(1), [tuple((k, 0, 0) for k in range(20))], 0, 0)


class TestNoForm(FormTest):
    def test_one_to_forty_lines(self):
        for many in range(1, 41):
            with self.subTest(many=many):
                self.made(ones(many), [], 0, many - 1)

    def test_no_line_and_more_than_forty(self):
        for owed in (0, -1, 1, None):
            self.refused(NoForm, [], [], 0, owed)
        for many in (41, 42, 100):
            with self.subTest(many=many):
                self.refused(NoForm, ones(many), [], 0, 0)

    def test_no_choice_to_eight(self):
        for choices in range(9):
            with self.subTest(choices=choices):
                self.made(ones(1), [], choices, 0)

    def test_choices_that_cannot_be(self):
        for choices in ODD + (-1, -2, -8, 9, 10, 10 ** 5000, -10 ** 5000):
            self.refused(NoForm, ones(1), [], choices, 0)

    def test_each_line_can_be_owed(self):
        for many in (1, 2, 3, 40):
            for owed in range(many):
                with self.subTest(many=many, owed=owed):
                    self.made(ones(many), [], 0, owed)

    def test_owed_that_cannot_be(self):
        for many in (1, 2, 3, 40):
            for owed in ODD + (-1, -many, many, many + 1, 10 ** 5000, -10 ** 5000):
                self.refused(NoForm, ones(many), [], 0, owed)

    def test_a_truth_is_neither_choices_nor_owed(self):
        for truth in (True, False):
            with self.subTest(truth=truth):
                self.refused(NoForm, ones(2), [], truth, 0)
                self.refused(NoForm, ones(2), [], 0, truth)
                self.refused(NoForm, ones(2), [], truth, truth)


class TestNoRule(FormTest):
    def test_a_line_that_is_no_rule(self):
        for thing in tuple(odd for odd in ODD if odd != ONE) + (
                0, "line", ("line",), ("unknown", 1), list(ONE), (ONE,), ("number", True), ("number", 10 ** 9 + 1),
                ("paper", "Wages"), ("part", ONE, 101)):
            self.refused(NoRule, [thing], [], 0, 0)
            self.refused(NoRule, [ONE, thing], [], 0, 0)
            self.refused(NoRule, [thing, ONE], [], 0, 1)

    def test_one_that_is_none_at_each_place(self):
        for at in range(40):
            lines = ones(40)
            lines[at] = ("number",)
            with self.subTest(at=at):
                self.refused(NoRule, lines, [], 0, 0)

    def test_lines_that_there_are_or_not(self):
        for many in (1, 2, 3, 40):
            for word in ("line", "earlier"):
                with self.subTest(many=many, word=word):
                    for k in (-1, many, many + 1):
                        self.refused(NoRule, [(word, k)] + ones(many - 1), [], 0, 0)
                    self.refused(NoRule, [(word, True)] + ones(many - 1), [], 0, 0)
            self.made([earlier(many - 1)] + ones(many - 1), [], 0, 0)
        self.made([line(39)] + ones(39), [], 0, 0)
        self.made([line(1), ONE], [], 0, 0)

    def test_tables_that_there_are_or_not(self):
        for many in range(6):
            with self.subTest(many=many):
                for k in range(many):
                    self.made([("table", k, ONE)], [TABLE] * many, 0, 0)
                for k in (-1, many, many + 1):
                    self.refused(NoRule, [("table", k, ONE)], [TABLE] * many, 8, 0)

    def test_choices_that_there_are_or_not(self):
        for many in range(9):
            with self.subTest(many=many):
                for k in range(many):
                    self.made([("choose", k, ONE, ONE)], [], many, 0)
                for k in (-1, many, many + 1):
                    self.refused(NoRule, [("choose", k, ONE, ONE)], [TABLE] * 5, many, 0)

    def test_eight_deep_and_nine_deep(self):
        rule = number(3)
        for _ in range(7):
            rule = ("part", rule, 50)
        self.made([rule], [], 0, 0)
        self.refused(NoRule, [("part", rule, 50)], [], 0, 0)


class TestRing(FormTest):
    def test_a_line_that_names_itself(self):
        self.refused(Ring, [line(0)], [], 0, 0)
        self.refused(Ring, [ONE, line(1), ONE], [], 0, 0)
        self.refused(Ring, [ONE, ONE, add(ONE, line(0), line(2))], [], 0, 0)

    def test_two_that_name_each_other(self):
        self.refused(Ring, [line(1), line(0)], [], 0, 0)
        self.refused(Ring, [line(2), ONE, line(0)], [], 0, 1)

    def test_through_many_others(self):
        for many in (3, 4, 10, 40):
            lines = [line((k + 1) % many) for k in range(many)]
            with self.subTest(many=many):
                self.refused(Ring, lines, [], 0, 0)
                lines[-1] = ONE
                self.made(lines, [], 0, 0)

    def test_within_a_part_that_is_never_reckoned_by(self):
        for rule in (("where", number(1), ONE, line(0)), ("where", number(0), line(0), ONE), ("part", line(0), 0),
                     ("choose", 0, ONE, line(0)), ("choose", 0, line(0), ONE), ("where", line(0), ONE, ONE),
                     ("table", 0, line(0)), ("least", ONE, line(0)), ("most", line(0), ONE), ("take", ONE, line(0))):
            with self.subTest(rule=rule):
                self.refused(Ring, [rule, ONE], [TABLE], 1, 1)

    def test_the_year_ahead_makes_no_ring(self):
        self.made([earlier(0)], [], 0, 0)
        self.made([earlier(1), earlier(0)], [], 0, 0)
        self.made([line(1), earlier(0)], [], 0, 0)
        self.made([add(earlier(0), line(1)), add(earlier(0), earlier(1))], [], 0, 0)

    def test_a_line_that_no_other_needs_counts_too(self):
        self.refused(Ring, [ONE, line(2), line(1)], [], 0, 0)


class TestTheFirstThatIsDue(FormTest):
    NO_TABLES = ([()], [TABLE] * 6, [TABLE, None])
    NO_FORMS = (([], 0, 0), (41, 0, 0), (2, 9, 0), (2, -1, 0), (2, None, 0), (2, 0, 2), (2, 0, True), (2, True, 0))
    NO_RULES = (None, ("line", 99), ("table", 9, ONE), ("choose", 9, ONE, ONE))

    def lines_of(self, count, *first):
        return [*first, *ones(count - len(first))] if count else []

    def test_no_table_ahead_of_all_others(self):
        for tables in self.NO_TABLES:
            for count, choices, owed in self.NO_FORMS:
                self.refused(NoTable, self.lines_of(count), tables, choices, owed)
                if count:
                    self.refused(NoTable, self.lines_of(count, None, line(1)), tables, choices, owed)
            for rule in self.NO_RULES + (line(0),):
                self.refused(NoTable, [rule, ONE], tables, 0, 0)
            self.refused(NoTable, [None, line(1)], tables, 0, 0)

    def test_no_form_ahead_of_rules_and_rings(self):
        for count, choices, owed in self.NO_FORMS:
            if count:
                for rule in self.NO_RULES + (line(0),):
                    self.refused(NoForm, self.lines_of(count, rule), [TABLE], choices, owed)
                self.refused(NoForm, self.lines_of(count, line(0), None), [TABLE], choices, owed)

    def test_no_rule_ahead_of_a_ring(self):
        for rule in self.NO_RULES:
            self.refused(NoRule, [rule, line(1)], [TABLE], 1, 0)
            self.refused(NoRule, [line(0), rule], [TABLE], 1, 0)
            self.refused(NoRule, [line(1), line(0), ONE, rule], [TABLE], 1, 0)
        self.refused(NoRule, [("add", line(0), line(2)), ONE], [], 0, 0)

    def test_things_several_hundred_deep(self):
        deep = deep_list(900)
        for refusal, parts in ((NoTable, (ones(1), [deep], 0, 0)), (NoForm, (ones(1), [], deep, 0)),
                               (NoForm, (ones(1), [], 0, deep)), (NoRule, ([deep], [], 0, 0)),
                               (NoRule, ([add(ONE, deep)], [], 0, 0)), (NoRule, ([("paper", deep)], [], 0, 0))):
            with self.assertRaises(refusal):
                form_of(*parts)

    def test_forms_by_chance_are_made_or_refused_as_the_rings_are(self):
        for rng in draws("forms", 300):
            lines, tables, choices, owed = drawn_parts(rng)
            self.made(lines, tables, choices, owed)
            at = rng.randrange(len(lines))
            lines[at] = drawn_rule(rng, list(range(len(lines))), len(lines), len(tables), choices, 3)
            if plain_rings(lines):
                self.refused(Ring, lines, tables, choices, owed)
            else:
                self.made(lines, tables, choices, owed)


class TestRingOf(unittest.TestCase):
    def check(self, lines, expected):
        before = copy.deepcopy(lines)
        told = ring_of(lines)
        self.assertIs(type(told), list)
        self.assertEqual(told, expected, lines)
        self.assertTrue(all(type(k) is int for k in told))
        self.assertEqual(lines, before)
        told.append(99)
        told[0] = 77
        self.assertEqual(ring_of(lines), expected, lines)

    def test_no_ring(self):
        self.check([], [])
        self.check([ONE], [])
        self.check([ONE, line(0), line(1)], [])
        self.check([line(1), line(2), ONE], [])
        self.check(lines_naming((1, 2), (2,), ()), [])
        self.check(lines_naming((1, 2), (3,), (3,), ()), [])
        self.check([line(k + 1) for k in range(39)] + [ONE], [])

    def test_a_line_that_names_itself(self):
        self.check([line(0)], [0])
        self.check([ONE, line(1)], [1])
        self.check([add(ONE, line(0)), ONE], [0])
        self.check([ONE] * 39 + [line(39)], [39])

    def test_rings_of_two_and_of_three(self):
        self.check([line(1), line(0)], [0, 1])
        self.check([ONE, line(3), ONE, line(1)], [1, 3])
        self.check([line(1), line(2), line(0)], [0, 1, 2])
        self.check([line(2), line(0), line(1)], [0, 2, 1])
        self.check([ONE, line(4), ONE, line(1), line(3)], [1, 4, 3])

    def test_all_lines_in_one_ring(self):
        for many in range(1, 42):
            with self.subTest(many=many):
                self.check([line((k + 1) % many) for k in range(many)], list(range(many)))
                self.check([line((k - 1) % many) for k in range(many)], [0] + list(range(many - 1, 0, -1)))

    def test_a_ring_begins_with_its_least_line_wherever_it_is_entered(self):
        self.check([line(3), ONE, line(4), line(2), line(3)], [2, 4, 3])
        self.check([line(5), ONE, ONE, line(4), line(5), line(3)], [3, 4, 5])

    def test_of_several_as_short_the_least_list(self):
        self.check([line(0), line(1)], [0])
        self.check([ONE, line(1), line(2)], [1])
        self.check([line(3), line(2), line(1), line(0)], [0, 3])
        self.check(lines_naming((2, 1), (0,), (0,)), [0, 1])
        self.check(lines_naming((3, 1), (2,), (0,), (2,)), [0, 1, 2])
        self.check(lines_naming((1,), (3, 2), (0,), (0,)), [0, 1, 2])
        self.check(lines_naming((1, 2, 3), (5,), (4,), (4,), (0,), (4,)), [0, 2, 4])
        self.check(lines_naming((2, 3), (), (5,), (4,), (0,), (0,)), [0, 2, 5])
        self.check(lines_naming((2, 3), (), (5,), (4,), (1,), (1,)), [])

    def test_of_several_as_short_the_least_by_a_later_place(self):
        self.check(lines_naming((1,), (4, 5), (0,), (0,), (3,), (2,)), [0, 1, 4, 3])
        self.check(lines_naming((1,), (4, 5), (0,), (0,), (2, 3), (2,)), [0, 1, 4, 2])

    def test_a_short_ring_ahead_of_a_lesser_list(self):
        self.check([line(1), line(0), line(2)], [2])
        self.check([line(1), line(2), line(0), line(4), line(3)], [3, 4])
        self.check([line(1), line(2), line(3), line(0), line(5), line(6), line(4)], [4, 5, 6])
        self.check([line(k + 1) for k in range(35)] + [line(0), line(37), line(38), line(36), ONE], [36, 37, 38])

    def test_rings_that_share_lines(self):
        self.check(lines_naming((1,), (2, 0), (0,)), [0, 1])
        self.check(lines_naming((1,), (2,), (0, 1)), [1, 2])
        self.check(lines_naming((1,), (2,), (3, 0), (1,)), [0, 1, 2])
        self.check(lines_naming((1,), (2,), (3,), (1, 0)), [1, 2, 3])
        self.check(lines_naming((1,), (2,), (3, 2), (0,)), [2])
        self.check(lines_naming((1, 2, 3), (0, 2, 3), (0, 1, 3), (0, 1, 2)), [0, 1])

    def test_a_least_line_that_reaches_a_ring_without_being_in_it(self):
        self.check([line(1), line(2), line(1)], [1, 2])
        self.check(lines_naming((1, 2, 3), (3,), (1,), (2,)), [1, 3, 2])

    def test_lines_that_are_named_within_other_rules(self):
        self.check([("where", ONE, ONE, ("part", line(0), 0))], [0])
        self.check([("choose", 5, line(1), ONE), ("table", 3, ("take", ONE, line(0)))], [0, 1])
        deep = line(1)
        for _ in range(7):
            deep = ("most", ONE, deep)
        self.check([deep, line(0)], [0, 1])

    def test_the_year_ahead_makes_no_ring(self):
        self.check([earlier(0)], [])
        self.check([earlier(1), line(0)], [])
        self.check([add(earlier(0), line(1)), add(earlier(0), line(2)), earlier(0)], [])

    def test_lines_that_make_no_form(self):
        self.check([line(5)], [])
        self.check([line(1)], [])
        self.check([line(5), line(1)], [1])
        self.check([add(line(9), line(1)), add(line(2), line(0))], [0, 1])
        self.check([ONE] * 50 + [line(60), line(51)], [51])
        self.check([line((k + 1) % 60) for k in range(60)], list(range(60)))

    def test_tables_and_choices_and_papers_are_no_lines(self):
        self.check([("table", 0, ONE), ("choose", 1, ONE, ONE), ("part", ONE, 2), number(3), paper("line")], [])

    def drawn_rows(self, rng):
        """For each of some few lines which it names, in half of the draws with no ring of one or two."""
        count, few, short = rng.randrange(1, 7), rng.choice((0.1, 0.2, 0.3, 0.5)), rng.random() < 0.5
        rows = [[] for _ in range(count)]
        for at in range(count):
            for k in range(count):
                if rng.random() < few and (short or (k != at and at not in rows[k])):
                    rows[at].append(k)
        return rows

    def test_rings_by_chance(self):
        found = {}
        for rng in draws("rings", 2000):
            lines = lines_naming(*self.drawn_rows(rng))
            expected = plain_ring(lines)
            found[len(expected)] = found.get(len(expected), 0) + 1
            self.check(lines, expected)
        self.assertTrue(all(found.get(many, 0) > 5 for many in range(5)), found)

    def test_long_rings_by_chance(self):
        for rng in draws("long rings", 200):
            count = rng.randrange(7, 9)
            rows = [[(k + 1) % count] for k in range(count)]
            places = list(range(count))
            rng.shuffle(places)
            mixed = [None] * count
            for k in range(count):
                mixed[places[k]] = [places[other] for other in rows[k]]
            for _ in range(rng.randrange(4)):
                mixed[rng.randrange(count)].append(rng.randrange(count))
            lines = lines_naming(*mixed)
            self.check(lines, self.least_ring(lines))

    def least_ring(self, lines):
        names = [sorted(set(k for k in range(len(lines)) if line(k) in flat(rule))) for rule in lines]
        rings, paths = [], [[k] for k in range(len(lines))]
        while paths and not rings:
            rings = sorted(path for path in paths if path[0] in names[path[-1]])
            paths = [path + [k] for path in paths for k in names[path[-1]] if k not in path]
        return rings[0] if rings else []


def flat(rule):
    """All rules in a rule, it included."""
    found = [rule]
    for part in rule[1:]:
        if isinstance(part, tuple):
            found.extend(flat(part))
    return found


class TestOrderOf(unittest.TestCase):
    def check(self, lines, expected, tables=(), choices=0):
        form = form_of(lines, list(tables), choices, 0)
        before = copy.deepcopy(form)
        told = order_of(form)
        self.assertIs(type(told), list)
        self.assertEqual(told, expected, lines)
        told.append(99)
        told[0] = 77
        self.assertEqual(order_of(form), expected, lines)
        self.assertEqual(form, before)

    def test_lines_that_name_nothing(self):
        for many in (1, 2, 3, 11, 40):
            with self.subTest(many=many):
                self.check(ones(many), list(range(many)))

    def test_lines_that_name_lines_ahead_of_them(self):
        self.check([ONE, line(0), line(1)], [0, 1, 2])
        self.check(lines_naming((), (0,), (0, 1), (2,)), [0, 1, 2, 3])

    def test_lines_that_name_lines_behind_them(self):
        self.check([line(1), ONE], [1, 0])
        self.check([line(2), ONE, ONE], [1, 2, 0])
        self.check([line(2), line(0), ONE], [2, 0, 1])
        self.check([line(1), line(2), ONE], [2, 1, 0])
        self.check([line(3), line(3), line(1), ONE], [3, 0, 1, 2])

    def test_a_chain_of_forty(self):
        self.check([line(k + 1) for k in range(39)] + [ONE], list(range(39, -1, -1)))
        self.check([ONE] + [line(k) for k in range(39)], list(range(40)))

    def test_a_chain_that_leaps(self):
        places = [7 * k % 40 for k in range(40)]
        lines = [ONE] * 40
        for before, after in zip(places, places[1:]):
            lines[after] = line(before)
        self.check(lines, places)

    def test_the_least_at_each_place_of_those_that_can_stand(self):
        # A line that is free only now stands ahead of greater ones that were free long ago.
        self.check([line(4), ONE, ONE, line(1), ONE, ONE], [1, 2, 3, 4, 0, 5])
        self.check([line(2), ONE, ONE, ONE], [1, 2, 0, 3])
        self.check([line(5), line(4), line(3), ONE, ONE, ONE], [3, 2, 4, 1, 5, 0])
        self.check([line(1), line(5), ONE, line(2), line(0), ONE], [2, 3, 5, 1, 0, 4])

    def test_a_line_that_names_several_waits_for_the_last(self):
        self.check(lines_naming((1, 3), (), (), (2,)), [1, 2, 3, 0])
        self.check(lines_naming((1, 2, 3), (3,), (1,), ()), [3, 1, 2, 0])
        self.check(lines_naming((2, 1), (2,), (), (0, 2)), [2, 1, 0, 3])

    def test_a_line_that_is_named_twice_in_one_rule(self):
        self.check([add(line(1), line(1), line(1)), ONE, line(0)], [1, 0, 2])

    def test_numbers_not_texts_are_compared(self):
        lines = ones(12)
        lines[0] = line(11)
        self.check(lines, [1, 2, 3, 4, 5, 6, 7, 8, 9, 10, 11, 0])

    def test_lines_within_other_rules_count(self):
        self.check([("where", ONE, ONE, line(2)), ONE, ONE], [1, 2, 0])
        self.check([("choose", 0, line(2), ONE), ONE, ONE], [1, 2, 0], choices=1)
        self.check([("table", 0, ("part", line(2), 0)), ONE, ONE], [1, 2, 0], tables=[TABLE])

    def test_the_year_ahead_does_not_count(self):
        self.check([earlier(2), earlier(1), earlier(0)], [0, 1, 2])
        self.check([add(earlier(0), line(1)), earlier(0), ONE], [1, 0, 2])

    def test_tables_and_choices_do_not_count(self):
        self.check([("table", 1, ONE), ("choose", 2, ONE, ONE), ("part", ONE, 2)], [0, 1, 2], [TABLE, TABLE], 3)

    def test_orders_by_chance(self):
        for rng in draws("orders", 600):
            lines, tables, choices, _ = drawn_parts(rng)
            self.check(lines, plain_order(lines), tables, choices)


if __name__ == "__main__":
    unittest.main()
