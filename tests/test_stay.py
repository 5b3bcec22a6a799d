import unittest
from fractions import Fraction
from math import gcd

from tests.lines import (AXES_TURNED, CUBE, FAR, QUARTER_TURN, SIXTH_TURN, SLANTED_MIRROR, SWAP, ask, last, told,
                         whole)


class Stay(unittest.TestCase):
    def test_the_instance_of_the_document(self):
        self.assertEqual(ask(("table", SWAP), ("stay", 2)),
                         [[2], [2, 1, 1, 0, 1, 1, 1, 0, 1, 1, 1, 0, 1]])

    def test_without_any_table_each_monomial_stays(self):
        for n, greatest in ((2, 8), (3, 5)):
            for d in range(greatest + 1):
                width = last(("begin", n), ("counts", d))[-1]
                unit = [int(i == j) for i in range(width) for j in range(width)]
                with self.subTest(n=n, d=d):
                    self.assertEqual(last(("begin", n), ("stay", d)), [width] + whole(*unit))

    def test_of_degree_0_just_one(self):
        self.assertEqual(last(("stay", 0)), [1, 1, 1])
        self.assertEqual(last(("table", QUARTER_TURN), ("stay", 0)), [1, 1, 1])
        self.assertEqual(last(("begin", 3), *told(CUBE), ("stay", 0)), [1, 1, 1])

    def test_none(self):
        self.assertEqual(last(("table", QUARTER_TURN), ("stay", 1)), [0])
        self.assertEqual(last(("begin", 3), *told(CUBE), ("stay", 5)), [0])

    def test_of_two_unknowns(self):
        self.assertEqual(last(("table", QUARTER_TURN), ("stay", 2)), [1] + whole(1, 0, 1))
        self.assertEqual(last(("table", QUARTER_TURN), ("stay", 4)),
                         [3] + whole(1, 0, 0, 0, 1, 0, 1, 0, -1, 0, 0, 0, 1, 0, 0))
        self.assertEqual(last(("table", (1, 0, 0, -1)), ("stay", 3)), [2] + whole(1, 0, 0, 0, 0, 0, 1, 0))

    def test_a_table_moves_each_unknown_to_its_row(self):
        # x becomes -x, y becomes x + y: x + 2 y stays. By its columns it would be y.
        self.assertEqual(last(("table", (-1, 0, 1, 1)), ("stay", 1)), [1] + whole(1, 2))
        # x becomes 2 y less x, y becomes y: y stays.
        self.assertEqual(last(("table", (-1, 2, 0, 1)), ("stay", 1)), [1] + whole(0, 1))

    def test_fractions_behind_the_1(self):
        self.assertEqual(last(("table", SLANTED_MIRROR), ("stay", 1)), [1, 1, 1, 1, 2])
        self.assertEqual(last(("table", SLANTED_MIRROR), ("stay", 3)),
                         [2, 1, 1, 3, 2, 0, 1, -1, 4, 0, 1, 0, 1, 1, 1, 1, 2])
        self.assertEqual(last(("table", (1, -1, 0, -1)), ("stay", 1)), [1, 1, 1, -1, 2])

    def test_the_order_of_monomials_of_three_unknowns(self):
        # Exchanging the second and the third: x x, x y + x z, y y + z z, y z.
        self.assertEqual(last(("begin", 3), ("table", (1, 0, 0, 0, 0, 1, 0, 1, 0)), ("stay", 2)),
                         [4] + whole(1, 0, 0, 0, 0, 0,
                                     0, 1, 1, 0, 0, 0,
                                     0, 0, 0, 1, 0, 1,
                                     0, 0, 0, 0, 1, 0))

    def test_of_three_unknowns(self):
        self.assertEqual(last(("begin", 3), *told(CUBE), ("stay", 2)), [1] + whole(1, 0, 0, 1, 0, 1))
        self.assertEqual(last(("begin", 3), ("table", AXES_TURNED), ("stay", 3)),
                         [4] + whole(1, 0, 0, 0, 0, 0, 1, 0, 0, 1,
                                     0, 1, 0, 0, 0, 1, 0, 1, 0, 0,
                                     0, 0, 1, 1, 0, 0, 0, 0, 1, 0,
                                     0, 0, 0, 0, 1, 0, 0, 0, 0, 0))
        self.assertEqual(last(("begin", 3), *told(CUBE), ("stay", 4)),
                         [2] + whole(1, 0, 0, 0, 0, 0, 0, 0, 0, 0, 1, 0, 0, 0, 1,
                                     0, 0, 0, 1, 0, 1, 0, 0, 0, 0, 0, 0, 1, 0, 0))

    def test_the_greatest_degrees(self):
        self.assertEqual(last(("table", QUARTER_TURN), ("table", SWAP), ("stay", 8)),
                         [3] + whole(1, 0, 0, 0, 0, 0, 0, 0, 1,
                                     0, 0, 1, 0, 0, 0, 1, 0, 0,
                                     0, 0, 0, 0, 1, 0, 0, 0, 0))
        answer = last(("begin", 3), *told(CUBE[:2]), ("stay", 5))
        self.assertEqual((answer[0], len(answer)), (5, 1 + 5 * 21 * 2))

    def test_other_degrees_are_refused(self):
        stays = [1] + whole(1, 1)
        for d in (-FAR, -1, 9, FAR):
            with self.subTest(d=d):
                self.assertEqual(ask(("table", SWAP), ("stay", d), ("stay", 1)), [[2], [-1], stays])
        for d in (-FAR, -1, 6, 8, 9, FAR):
            with self.subTest(d=d):
                self.assertEqual(ask(("begin", 3), ("stay", d), ("stay", 0)), [[3], [-1], [1, 1, 1]])


class HowTheyAreTold(unittest.TestCase):
    def told_rows(self, tables, n, d):
        answer = last(("begin", n), *told(tables), ("stay", d))
        many = answer[0]
        pairs = list(zip(answer[1::2], answer[2::2]))
        if many == 0:
            self.assertEqual(answer, [0])
            return []
        width = len(pairs) // many
        return [pairs[k * width:(k + 1) * width] for k in range(many)]

    def test_fractions_have_nothing_in_common_and_are_above_0_below(self):
        for tables in ([SLANTED_MIRROR], [SIXTH_TURN], [(1, 2, 0, -1)], [(1, -1, 0, -1)], [(-1, -2, 1, 1)]):
            for d in range(9):
                for row in self.told_rows(tables, 2, d):
                    for above, below in row:
                        self.assertGreater(below, 0)
                        self.assertEqual(gcd(above, below), 1)

    def test_0_ahead_of_a_1_where_all_others_have_0_at_rising_places(self):
        for n, tables in ((2, [SLANTED_MIRROR]), (2, [SIXTH_TURN]), (2, [(-1, -2, 1, 1)]), (3, CUBE[:1]), (3, CUBE)):
            for d in range(6):
                rows = [[Fraction(*pair) for pair in row] for row in self.told_rows(tables, n, d)]
                places = [[bool(x) for x in row].index(True) for row in rows]
                self.assertEqual(places, sorted(set(places)))
                for k, place in enumerate(places):
                    self.assertEqual([row[place] for row in rows], [int(j == k) for j in range(len(rows))])
