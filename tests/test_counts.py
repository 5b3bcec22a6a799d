import unittest

from tests.lines import CUBE, FAR, QUARTER_TURN, SIXTH_TURN, SLANTED_MIRROR, SWAP, ask, last, told


class Counts(unittest.TestCase):
    def test_without_any_table_all_monomials_stay(self):
        self.assertEqual(last(("counts", 8)), [1, 2, 3, 4, 5, 6, 7, 8, 9])
        self.assertEqual(last(("begin", 3), ("counts", 5)), [1, 3, 6, 10, 15, 21])

    def test_of_two_unknowns(self):
        for tables, counts in (([SWAP], [1, 1, 2, 2, 3, 3, 4, 4, 5]),
                               ([SLANTED_MIRROR], [1, 1, 2, 2, 3, 3, 4, 4, 5]),
                               ([(-1, 0, 0, -1)], [1, 0, 3, 0, 5, 0, 7, 0, 9]),
                               ([QUARTER_TURN], [1, 0, 1, 0, 3, 0, 3, 0, 5]),
                               ([SIXTH_TURN], [1, 0, 1, 0, 1, 0, 3, 0, 3]),
                               ([QUARTER_TURN, SWAP], [1, 0, 1, 0, 2, 0, 2, 0, 3]),
                               ([SIXTH_TURN, SWAP], [1, 0, 1, 0, 1, 0, 2, 0, 2])):
            with self.subTest(tables=tables):
                self.assertEqual(last(*told(tables), ("counts", 8)), counts)

    def test_of_three_unknowns(self):
        self.assertEqual(last(("begin", 3), *told(CUBE[:1]), ("counts", 5)), [1, 1, 2, 4, 5, 7])
        self.assertEqual(last(("begin", 3), *told(CUBE[:2]), ("counts", 5)), [1, 1, 2, 3, 4, 5])
        self.assertEqual(last(("begin", 3), *told(CUBE), ("counts", 5)), [1, 0, 1, 0, 2, 0])

    def test_degree_0_and_each_up_to_the_greatest(self):
        whole = last(("table", SWAP), ("counts", 8))
        for d in range(9):
            with self.subTest(d=d):
                self.assertEqual(last(("table", SWAP), ("counts", d)), whole[:d + 1])
        self.assertEqual(last(("begin", 3), ("counts", 0)), [1])

    def test_as_many_as_those_that_stay(self):
        for n, tables in ((2, [SWAP]), (2, [QUARTER_TURN]), (2, [SIXTH_TURN, SWAP]), (3, CUBE[:1]), (3, CUBE)):
            greatest = {2: 8, 3: 5}[n]
            begun = [("begin", n), *told(tables)]
            with self.subTest(tables=tables):
                many = [last(*begun, ("stay", d))[0] for d in range(greatest + 1)]
                self.assertEqual(last(*begun, ("counts", greatest)), many)

    def test_other_degrees_are_refused(self):
        for d in (-FAR, -8, -1, 9, 10, FAR):
            with self.subTest(d=d):
                self.assertEqual(ask(("table", SWAP), ("counts", d), ("counts", 2)), [[2], [-1], [1, 1, 2]])
        for d in (-FAR, -1, 6, 7, 8, 9, FAR):
            with self.subTest(d=d):
                self.assertEqual(ask(("begin", 3), ("counts", d), ("counts", 1)), [[3], [-1], [1, 3]])
