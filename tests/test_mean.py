import unittest
from fractions import Fraction
from math import gcd

from tests.lines import (AXES_SWAPPED, CUBE, FAR, GREATEST, QUARTER_TURN, SIXTH_TURN, SLANTED_MIRROR, SWAP, ask,
                         fractions, last, scaled, told, unit, whole, width)


class Mean(unittest.TestCase):
    def test_fractions(self):
        self.assertEqual(last(("table", SWAP), ("mean", 1, (1, 0))), [1, 2, 1, 2])
        self.assertEqual(last(("table", SWAP), ("mean", 2, (3, 1, 0))), [3, 2, 1, 1, 3, 2])
        self.assertEqual(last(("table", SWAP), ("mean", 2, (-3, 1, 0))), [-3, 2, 1, 1, -3, 2])
        self.assertEqual(last(("table", QUARTER_TURN), ("mean", 2, (1, 1, 0))), [1, 2, 0, 1, 1, 2])
        self.assertEqual(last(("begin", 3), ("table", CUBE[0]), ("mean", 1, (1, 0, 1))), [2, 3] * 3)

    def test_whole_numbers(self):
        self.assertEqual(last(("table", SWAP), ("mean", 1, (2, 0))), whole(1, 1))
        self.assertEqual(last(("table", SWAP), ("mean", 1, (-7, -5))), whole(-6, -6))
        self.assertEqual(last(("begin", 3), ("table", CUBE[0]), ("mean", 1, (1, 0, 2))), whole(1, 1, 1))

    def test_0(self):
        nothing = whole(0, 0)
        self.assertEqual(last(("table", SWAP), ("mean", 1, (1000, -1000))), nothing)
        self.assertEqual(last(("table", QUARTER_TURN), ("mean", 1, (5, 7))), nothing)
        self.assertEqual(last(("table", (-1, 0, 0, -1)), ("mean", 3, (1, 2, 3, 4))), whole(0, 0, 0, 0))
        self.assertEqual(last(("begin", 3), *told(CUBE), ("mean", 5, unit(3, 5, 0))), whole(*[0] * 21))

    def test_of_the_polynomial_that_is_0(self):
        for n, tables in ((2, []), (2, [SIXTH_TURN]), (3, []), (3, CUBE)):
            for d in range(GREATEST[n] + 1):
                with self.subTest(n=n, tables=tables, d=d):
                    self.assertEqual(last(("begin", n), *told(tables), ("mean", d, [0] * width(n, d))),
                                     whole(*[0] * width(n, d)))

    def test_of_degree_0_it_is_what_is_handed_over(self):
        for number in (-1000, -6, -4, -2, -1, 0, 1, 7, 1000):
            self.assertEqual(ask(("mean", 0, [number]), ("table", SIXTH_TURN), ("mean", 0, [number])),
                             [[number, 1], [6], [number, 1]])
            self.assertEqual(last(("begin", 3), *told(CUBE), ("mean", 0, [number])), [number, 1])

    def test_without_any_table_it_is_what_is_handed_over(self):
        for n in (2, 3):
            for d in range(GREATEST[n] + 1):
                polynomial = [97 * k - 1000 for k in range(width(n, d))]
                with self.subTest(n=n, d=d):
                    self.assertEqual(last(("begin", n), ("mean", d, polynomial)), whole(*polynomial))

    def test_of_what_stays_it_is_the_same(self):
        self.assertEqual(last(("table", SWAP), ("mean", 3, (5, -2, -2, 5))), whole(5, -2, -2, 5))
        self.assertEqual(last(("table", QUARTER_TURN), ("mean", 4, (1, 3, -5, -3, 1))), whole(1, 3, -5, -3, 1))

    def test_a_table_moves_each_unknown_to_its_row(self):
        # x becomes -x, y becomes x + y.
        self.assertEqual(ask(("table", (-1, 0, 1, 1)), ("mean", 1, (0, 1)), ("mean", 1, (1, 0)),
                             ("mean", 2, (0, 0, 1))), [[2], [1, 2, 1, 1], whole(0, 0), [1, 2, 1, 1, 1, 1]])

    def test_all_tables_of_the_group_count_once_each(self):
        line = [("table", SWAP), ("table", SWAP), ("table", (-1, 0, 0, 1)), ("table", (1, 0, 0, 1))]
        self.assertEqual(ask(*line, ("mean", 2, (1, 5, 0)))[2:], [[8], [8], [1, 2, 0, 1, 1, 2]])

    def test_of_48_tables_and_the_greatest_degrees(self):
        fourth = [0] * 15
        fourth[0] = fourth[10] = fourth[14] = 1
        found = fractions(last(("begin", 3), *told(CUBE), ("mean", 4, unit(3, 4, 0))))
        self.assertEqual(found, [Fraction(number, 3) for number in fourth])
        self.assertEqual(last(("table", SWAP), ("mean", 8, unit(2, 8, 1))), [0, 1, 1, 2] + [0, 1] * 5 + [1, 2, 0, 1])
        self.assertEqual(last(("begin", 3), ("table", AXES_SWAPPED), ("mean", 5, unit(3, 5, 20))),
                         whole(*unit(3, 5, 20)))

    def test_the_order_of_monomials_of_three_unknowns(self):
        # Exchanging the first two: x x z and y y z, of degree 3 at places 2 and 7.
        found = [0, 1] * 10
        found[4:6] = found[14:16] = [1, 2]
        self.assertEqual(last(("begin", 3), ("table", AXES_SWAPPED), ("mean", 3, unit(3, 3, 2))), found)


class MeansStay(unittest.TestCase):
    GROUPS = ((2, [SWAP]), (2, [SLANTED_MIRROR]), (2, [QUARTER_TURN]), (2, [SIXTH_TURN, SWAP]),
              (3, CUBE[:1]), (3, CUBE))

    def test_the_mean_stays_and_is_its_own_mean(self):
        for n, tables in self.GROUPS:
            for d in range(5):
                for place in range(width(n, d)):
                    begun = [("begin", n), *told(tables)]
                    polynomial = scaled(fractions(last(*begun, ("mean", d, unit(n, d, place)))))
                    with self.subTest(tables=tables, d=d, place=place):
                        self.assertEqual(ask(*begun, ("stays", d, polynomial), ("mean", d, polynomial))[-2:],
                                         [[1], whole(*polynomial)])

    def test_two_numbers_with_nothing_in_common_above_0_below(self):
        for n, tables in self.GROUPS:
            for d in range(GREATEST[n] + 1):
                polynomial = [6 * k - 20 for k in range(width(n, d))]
                answer = last(("begin", n), *told(tables), ("mean", d, polynomial))
                self.assertEqual(len(answer), 2 * width(n, d))
                for above, below in zip(answer[::2], answer[1::2]):
                    self.assertGreater(below, 0)
                    self.assertEqual(gcd(above, below), 1)


class Refused(unittest.TestCase):
    BEHIND = {2: [("table", SWAP), ("mean", 1, (1, 0))], 3: [("table", AXES_SWAPPED), ("mean", 1, (1, 0, 0))]}
    ANSWERS = {2: [1, 2, 1, 2], 3: [1, 2, 1, 2, 0, 1]}

    def check(self, n, d, polynomial):
        table, behind = self.BEHIND[n]
        with self.subTest(n=n, d=d, polynomial=polynomial):
            self.assertEqual(ask(("begin", n), table, ("mean", d, polynomial), behind),
                             [[n], [2], [-1], self.ANSWERS[n]])

    def test_other_degrees(self):
        for d in (-FAR, -9, -2, -1, 9, 10, FAR):
            for count in (0, 1, 2, 3, 10, 11, 30):
                self.check(2, d, [0] * count)
        for d in (-FAR, -3, -2, -1, 6, 7, 8, FAR):
            for count in (0, 1, 3, 21, 28, 30):
                self.check(3, d, [0] * count)

    def test_other_counts_of_numbers(self):
        for n in (2, 3):
            for d in range(GREATEST[n] + 1):
                for count in range(31):
                    if count != width(n, d):
                        self.check(n, d, [0] * count)

    def test_numbers_that_are_too_great_at_each_place(self):
        for n, d in ((2, 0), (2, 2), (2, 8), (3, 1), (3, 5)):
            for place in range(width(n, d)):
                for number in (-FAR, -1001, 1001, FAR):
                    self.check(n, d, [number * x for x in unit(n, d, place)])

    def test_the_greatest_that_are_let(self):
        self.assertEqual(last(("mean", 1, (-1000, 1000))), whole(-1000, 1000))
        self.assertEqual(last(("table", SWAP), ("mean", 8, [1000] * 9)), whole(*[1000] * 9))
        self.assertEqual(last(("begin", 3), *told(CUBE[:2]), ("mean", 5, [-1000] * 21)), whole(*[-1000] * 21))
