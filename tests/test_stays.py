import unittest

from tests.lines import (AXES_SWAPPED, AXES_TURNED, CUBE, FAR, GREATEST, QUARTER_TURN, SIXTH_TURN, SLANTED_MIRROR, SWAP,
                         ask, last, rows_told, scaled, told, unit, width)


class Stays(unittest.TestCase):
    def test_of_two_unknowns(self):
        for table, d, polynomial, answer in ((SWAP, 1, (1, 1), 1), (SWAP, 1, (1, 0), 0), (SWAP, 1, (1, -1), 0),
                                             (SWAP, 2, (1, 0, 1), 1), (SWAP, 2, (0, 1, 0), 1), (SWAP, 2, (2, -3, 2), 1),
                                             (SWAP, 2, (1, 0, -1), 0), (SWAP, 2, (1, 5, 2), 0),
                                             (QUARTER_TURN, 1, (1, 1), 0), (QUARTER_TURN, 2, (1, 0, 1), 1),
                                             (QUARTER_TURN, 2, (1, 1, 1), 0), (QUARTER_TURN, 4, (0, 1, 0, -1, 0), 1),
                                             (QUARTER_TURN, 4, (0, 1, 0, 1, 0), 0), (SIXTH_TURN, 2, (1, 1, 1), 1),
                                             (SIXTH_TURN, 2, (1, -1, 1), 0), (SLANTED_MIRROR, 1, (2, 1), 1),
                                             (SLANTED_MIRROR, 1, (1, 2), 0)):
            with self.subTest(table=table, polynomial=polynomial):
                self.assertEqual(last(("table", table), ("stays", d, polynomial)), [answer])

    def test_of_three_unknowns(self):
        begun = [("begin", 3), *told(CUBE)]
        self.assertEqual(ask(*begun, ("stays", 2, (1, 0, 0, 1, 0, 1)), ("stays", 2, (1, 0, 0, 1, 0, 2)),
                             ("stays", 2, (1, 1, 1, 1, 1, 1)))[-3:], [[1], [0], [0]])
        # x x y + y y z + z z x stays if the axes are turned, not if two of them are swapped.
        cubic = (0, 1, 0, 0, 0, 1, 0, 1, 0, 0)
        self.assertEqual(ask(("begin", 3), ("table", AXES_TURNED), ("stays", 3, cubic), ("table", AXES_SWAPPED),
                             ("stays", 3, cubic)), [[3], [3], [1], [6], [0]])

    def test_a_table_moves_each_unknown_to_its_row(self):
        # x becomes -x, y becomes x + y: x + 2 y stays. By its columns it would be y.
        self.assertEqual(ask(("table", (-1, 0, 1, 1)), ("stays", 1, (1, 2)), ("stays", 1, (0, 1))), [[2], [1], [0]])

    def test_all_tables_must_leave_it(self):
        mirror = (-1, 0, 0, 1)
        self.assertEqual(ask(("stays", 2, (0, 1, 0)), ("table", SWAP), ("stays", 2, (0, 1, 0)), ("table", mirror),
                             ("stays", 2, (0, 1, 0)), ("stays", 2, (1, 0, 1))), [[1], [2], [1], [8], [0], [1]])
        self.assertEqual(ask(("table", mirror), ("stays", 2, (1, 0, 2)), ("table", SWAP), ("stays", 2, (1, 0, 2))),
                         [[2], [1], [8], [0]])

    def test_without_any_table_each_stays(self):
        for n in (2, 3):
            for d in range(GREATEST[n] + 1):
                polynomial = [17 * k - 100 for k in range(width(n, d))]
                with self.subTest(n=n, d=d):
                    self.assertEqual(ask(("begin", n), ("stays", d, polynomial), ("stays", d, unit(n, d, 0)))[1:],
                                     [[1], [1]])

    def test_0_stays_whatever_is_done(self):
        for n, tables in ((2, [SIXTH_TURN, SWAP]), (3, CUBE)):
            for d in range(GREATEST[n] + 1):
                self.assertEqual(last(("begin", n), *told(tables), ("stays", d, [0] * width(n, d))), [1])

    def test_of_degree_0_each_stays(self):
        for number in (-1000, -1, 0, 1, 1000):
            self.assertEqual(last(("table", SIXTH_TURN), ("stays", 0, [number])), [1])
            self.assertEqual(last(("begin", 3), *told(CUBE), ("stays", 0, [number])), [1])

    def test_of_the_greatest_degrees(self):
        even = [1, 0, 4, 0, 6, 0, 4, 0, 1]
        self.assertEqual(ask(("table", QUARTER_TURN), ("stays", 8, even), ("stays", 8, even[:-1] + [2])),
                         [[4], [1], [0]])
        fifth = [int(k in (0, 15, 20)) for k in range(21)]
        self.assertEqual(ask(("begin", 3), *told(CUBE[:2]), ("stays", 5, fifth), ("stays", 5, unit(3, 5, 0)))[-2:],
                         [[1], [0]])
        self.assertEqual(last(("begin", 3), *told(CUBE), ("stays", 5, fifth)), [0])

    def test_those_told_stay(self):
        for n, tables in ((2, [SLANTED_MIRROR]), (2, [SIXTH_TURN]), (3, CUBE[:1])):
            for d in range(1, GREATEST[n] + 1):
                begun = [("begin", n), *told(tables)]
                for row in rows_told(n, d, last(*begun, ("stay", d))):
                    polynomial = scaled(row)
                    with self.subTest(tables=tables, polynomial=polynomial):
                        self.assertEqual(last(*begun, ("stays", d, polynomial)), [1])

    def test_a_table_that_is_refused_moves_nothing(self):
        for wrong in ((1, 1, 0, 1), (1, 0, 0, 0), (-1, 0, 0, 3), (-1,)):
            self.assertEqual(ask(("table", SWAP), ("table", wrong), ("stays", 1, (1, 1)), ("stays", 1, (1, 0)))[2:],
                             [[1], [0]])


class Refused(unittest.TestCase):
    TABLES = {2: SWAP, 3: AXES_SWAPPED}

    def check(self, n, d, polynomial):
        with self.subTest(n=n, d=d, polynomial=polynomial):
            self.assertEqual(ask(("begin", n), ("table", self.TABLES[n]), ("stays", d, polynomial),
                                 ("stays", 1, [1] * n), ("stays", 1, unit(n, 1, 0))), [[n], [2], [-1], [1], [0]])

    def test_other_degrees(self):
        for d in (-FAR, -9, -2, -1, 9, 10, FAR):
            for count in (0, 1, 2, 3, 10, 11, 30):
                self.check(2, d, [0] * count)
        for d in (-FAR, -3, -2, -1, 6, 7, 8, FAR):
            for count in (0, 1, 3, 21, 28, 30):
                self.check(3, d, [0] * count)

    def test_other_counts_of_numbers(self):
        for n in (2, 3):
            for d in range(GREATEST[n] + 1):
                for count in range(31):
                    if count != width(n, d):
                        self.check(n, d, [0] * count)

    def test_numbers_that_are_too_great_at_each_place(self):
        for n, d in ((2, 0), (2, 2), (2, 8), (3, 1), (3, 5)):
            for place in range(width(n, d)):
                for number in (-FAR, -1001, 1001, FAR):
                    self.check(n, d, [number * x for x in unit(n, d, place)])
        self.check(2, 1, [1001, 1001])
        self.check(3, 1, [-1001] * 3)

    def test_the_greatest_that_are_let(self):
        self.assertEqual(ask(("table", SWAP), ("stays", 1, (1000, 1000)), ("stays", 1, (-1000, -1000)),
                             ("stays", 1, (1000, -1000)), ("stays", 8, [1000] * 9)), [[2], [1], [1], [0], [1]])
