import unittest

from tests.lines import AXES_SWAPPED, CUBE, FAR, SWAP, ask, last, told


class Begin(unittest.TestCase):
    def test_answers_how_many_unknowns(self):
        self.assertEqual(ask(("begin", 2), ("begin", 3), ("begin", 2)), [[2], [3], [2]])

    def test_there_are_two_unknowns_at_first(self):
        self.assertEqual(ask(("group",), ("counts", 1)), [[1, 1, 0, 0, 1], [1, 2]])

    def test_changes_how_many_unknowns_there_are(self):
        self.assertEqual(ask(("begin", 3), ("counts", 1), ("begin", 2), ("counts", 1)), [[3], [1, 3], [2], [1, 2]])

    def test_again_behind_tables_no_table_is_told(self):
        self.assertEqual(ask(("table", SWAP), ("begin", 2), ("group",), ("counts", 1)),
                         [[2], [2], [1, 1, 0, 0, 1], [1, 2]])
        self.assertEqual(ask(("begin", 3), *told(CUBE), ("begin", 3), ("group",))[-2:],
                         [[3], [1, 1, 0, 0, 0, 1, 0, 0, 0, 1]])

    def test_again_what_was_told_ahead_makes_nothing_any_more(self):
        self.assertEqual(last(("table", SWAP), ("begin", 2), ("table", (-1, 0, 0, 1))), [2])
        self.assertEqual(last(("table", SWAP), ("table", (-1, 0, 0, 1))), [8])

    def test_other_counts_are_refused(self):
        for n in (-FAR, -3, -2, -1, 0, 1, 4, 5, FAR - 1, FAR):
            with self.subTest(n=n):
                self.assertEqual(last(("begin", n)), [-1])

    def test_all_is_as_it_was_behind_a_refusal(self):
        for n in (-FAR, 1, 4, FAR):
            with self.subTest(n=n):
                self.assertEqual(ask(("table", SWAP), ("begin", n), ("group",), ("counts", 1)),
                                 [[2], [-1], [2, 0, 1, 1, 0, 1, 0, 0, 1], [1, 1]])
                self.assertEqual(ask(("begin", 3), ("table", AXES_SWAPPED), ("begin", n), ("counts", 1)),
                                 [[3], [2], [-1], [1, 2]])
