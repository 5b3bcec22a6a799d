import unittest

from tests.lines import (AXES_SWAPPED, AXES_TURNED, CUBE, FAR, ONE_MIRRORED, QUARTER_TURN, SHEAR, SIXTH_TURN,
                         SWAP, ask, last, told)
from tests.oracle import monoid


class Table(unittest.TestCase):
    def test_answers_how_many_tables_the_group_has(self):
        for table, count in ((SWAP, 2), (QUARTER_TURN, 4), (SIXTH_TURN, 6), ((0, -1, 1, -1), 3),
                             ((1, 0, 0, 1), 1), ((-1, 0, 0, -1), 2), ((1, 2, 0, -1), 2), ((-1, -2, 1, 1), 4)):
            with self.subTest(table=table):
                self.assertEqual(last(("table", table)), [count])

    def test_of_three_unknowns(self):
        self.assertEqual(ask(("begin", 3), *told(CUBE)), [[3], [3], [6], [48]])

    def test_is_one_of_those_told_too(self):
        self.assertEqual(ask(("table", SWAP), ("table", QUARTER_TURN)), [[2], [8]])
        self.assertEqual(ask(("table", SIXTH_TURN), ("table", SWAP)), [[6], [12]])

    def test_in_the_group_already(self):
        self.assertEqual(ask(("table", SWAP), ("table", SWAP), ("table", (1, 0, 0, 1)), ("group",)),
                         [[2], [2], [2], [2, 0, 1, 1, 0, 1, 0, 0, 1]])
        self.assertEqual(ask(("table", QUARTER_TURN), ("table", (0, 1, -1, 0))), [[4], [4]])
        self.assertEqual(last(("begin", 3), *told(CUBE), *told(CUBE)), [48])

    def test_nothing_done_is_counted_once(self):
        self.assertEqual(ask(("table", (1, 0, 0, 1)), ("group",)), [[1], [1, 1, 0, 0, 1]])

    def test_all_the_numbers_that_are_let(self):
        self.assertEqual(ask(("table", (1, -2, 0, -1)), ("group",)), [[2], [2, 1, -2, 0, -1, 1, 0, 0, 1]])
        self.assertEqual(last(("table", (1, 2, 0, -1))), [2])


class NotATable(unittest.TestCase):
    def test_other_counts_of_numbers(self):
        for count in range(21):
            numbers = [0] * count
            with self.subTest(count=count):
                self.assertEqual(last(("table", numbers)), [-6 if count == 4 else -1])
                self.assertEqual(last(("begin", 3), ("table", numbers)), [-6 if count == 9 else -1])

    def test_a_table_of_another_count_of_unknowns(self):
        self.assertEqual(ask(("table", AXES_SWAPPED), ("begin", 3), ("table", SWAP)), [[-1], [3], [-1]])

    def test_numbers_that_are_too_great_at_each_place(self):
        for table in (SWAP, QUARTER_TURN):
            for place in range(4):
                for number in (-FAR, -4, -3, 3, 4, FAR):
                    numbers = list(table)
                    numbers[place] = number
                    with self.subTest(numbers=numbers):
                        self.assertEqual(last(("table", numbers)), [-1])
        for place in range(9):
            for number in (-FAR, -3, 3, FAR):
                numbers = list(AXES_TURNED)
                numbers[place] = number
                with self.subTest(numbers=numbers):
                    self.assertEqual(last(("begin", 3), ("table", numbers)), [-1])

    def test_a_table_that_would_be_in_a_small_group_but_for_its_numbers(self):
        self.assertEqual(last(("table", (1, 3, 0, -1))), [-1])
        self.assertEqual(last(("table", (1, -3, 0, -1))), [-1])


class TooManyTables(unittest.TestCase):
    def test_a_table_that_never_comes_back(self):
        for table in (SHEAR, (2, 1, 1, 1), (2, 0, 0, 1), (-2, 2, 2, -1), (1, -2, 0, 1)):
            with self.subTest(table=table):
                self.assertEqual(last(("table", table)), [-2])

    def test_two_tables_each_of_a_small_group(self):
        self.assertEqual(ask(("table", SIXTH_TURN), ("table", QUARTER_TURN)), [[6], [-2]])
        self.assertEqual(ask(("table", (1, 1, 0, -1)), ("table", (1, 0, 0, -1))), [[2], [-2]])

    def test_just_48_are_let(self):
        self.assertEqual(last(("begin", 3), *told(CUBE)), [48])

    def test_just_49_are_too_many(self):
        zero = ("table", (0,) * 9)
        self.assertEqual(last(("begin", 3), *told(CUBE), zero), [-2])
        self.assertEqual(last(("begin", 3), *told(CUBE[:2]), zero), [-6])


class NotUndone(unittest.TestCase):
    def test_a_table_that_loses_something(self):
        for table in ((0, 0, 0, 0), (1, 0, 0, 0), (0, 1, 0, 0), (0, 0, 1, 1), (1, 1, 0, 0), (-1, 0, 0, 0),
                      (2, -1, 2, -1), (2, -2, 1, -1), (-2, 1, -2, 1)):
            with self.subTest(table=table):
                self.assertEqual(last(("table", table)), [-6])
        self.assertEqual(last(("begin", 3), ("table", (1, 0, 0, 0, 1, 0, 0, 0, 0))), [-6])
        self.assertEqual(last(("begin", 3), ("table", (0, 1, 0, 0, 0, 1, 0, 0, 0))), [-6])

    def test_behind_tables_that_can_be_undone(self):
        self.assertEqual(last(("table", SIXTH_TURN), ("table", (0, 0, 0, 0))), [-6])
        self.assertEqual(last(("table", SWAP), ("table", (1, 0, 0, 0))), [-6])

    def test_with_just_48_tables_made(self):
        lost = (-1, 0, 0, 0, 0, -1, 0, 0, -1)
        tables = (AXES_SWAPPED, ONE_MIRRORED)
        self.assertEqual(len(monoid(3, [*tables, lost], 48)), 48)
        self.assertEqual(last(("begin", 3), *told(tables), ("table", lost)), [-6])


class WhichRefusal(unittest.TestCase):
    def test_no_table_is_told_ahead_of_too_many(self):
        self.assertEqual(last(("table", (1, 3, 0, 1))), [-1])
        self.assertEqual(last(("table", (3, 0, 0, 0))), [-1])
        self.assertEqual(last(("table", (3, 0, 0))), [-1])

    def test_too_many_is_told_ahead_of_not_undone(self):
        for table in ((2, 0, 0, 0), (1, 1, 1, 1), (0, 0, 0, 2), (-2, 0, 0, 0), (2, 2, 2, 2)):
            with self.subTest(table=table):
                self.assertEqual(last(("table", table)), [-2])
        self.assertEqual(ask(("table", (1, 2, 0, 0)), ("table", QUARTER_TURN), ("table", (1, 2, 0, 0))),
                         [[-6], [4], [-2]])
        self.assertEqual(last(("begin", 3), *told(CUBE), ("table", (1, 0, 0, 0, 0, 0, 0, 0, 0))), [-2])


class AsItWas(unittest.TestCase):
    def test_behind_each_refusal(self):
        before = ask(("table", SWAP), ("group",), ("counts", 4), ("stay", 3))
        for wrong, refusal in (((1, 0, 0), -1), ((3, 0, 0, 1), -1), (SHEAR, -2), ((2, 0, 0, 0), -2),
                               ((1, 0, 0, 0), -6), ((0, 0, 0, 0), -6)):
            with self.subTest(wrong=wrong):
                found = ask(("table", SWAP), ("table", wrong), ("group",), ("counts", 4), ("stay", 3))
                self.assertEqual(found, before[:1] + [[refusal]] + before[1:])

    def test_what_was_refused_makes_nothing_later(self):
        self.assertEqual(ask(("table", SIXTH_TURN), ("table", QUARTER_TURN), ("table", SWAP)), [[6], [-2], [12]])
        self.assertEqual(ask(("table", (1, 0, 0, 0)), ("table", SHEAR), ("table", (3,)), ("table", SWAP)),
                         [[-6], [-2], [-1], [2]])
