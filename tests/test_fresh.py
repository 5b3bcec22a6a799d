import unittest

from tests.lines import (AXES_SWAPPED, AXES_TURNED, CUBE, FAR, QUARTER_TURN, SIXTH_TURN, SLANTED_MIRROR, SWAP,
                         TWO_MIRRORED, ask, last, told)


class Fresh(unittest.TestCase):
    def test_the_instance_of_the_document(self):
        self.assertEqual(ask(("table", SWAP), ("fresh", 4), ("stay", 2)),
                         [[2], [0, 1, 1, 0, 0], [2, 1, 1, 0, 1, 1, 1, 0, 1, 1, 1, 0, 1]])

    def test_without_any_table_the_unknowns_are_new(self):
        self.assertEqual(last(("fresh", 8)), [0, 2, 0, 0, 0, 0, 0, 0, 0])
        self.assertEqual(last(("begin", 3), ("fresh", 5)), [0, 3, 0, 0, 0, 0])

    def test_of_two_unknowns(self):
        for tables, new in (([SWAP], [0, 1, 1, 0, 0, 0, 0, 0, 0]),
                            ([SLANTED_MIRROR], [0, 1, 1, 0, 0, 0, 0, 0, 0]),
                            ([(-1, 0, 0, -1)], [0, 0, 3, 0, 0, 0, 0, 0, 0]),
                            ([(0, -1, 1, -1)], [0, 0, 1, 2, 0, 0, 0, 0, 0]),
                            ([(0, -1, 1, -1), SWAP], [0, 0, 1, 1, 0, 0, 0, 0, 0]),
                            ([QUARTER_TURN], [0, 0, 1, 0, 2, 0, 0, 0, 0]),
                            ([QUARTER_TURN, SWAP], [0, 0, 1, 0, 1, 0, 0, 0, 0]),
                            ([SIXTH_TURN], [0, 0, 1, 0, 0, 0, 2, 0, 0]),
                            ([SIXTH_TURN, SWAP], [0, 0, 1, 0, 0, 0, 1, 0, 0])):
            with self.subTest(tables=tables):
                self.assertEqual(last(*told(tables), ("fresh", 8)), new)

    def test_of_three_unknowns(self):
        for tables, new in (([(-1, 0, 0, 0, -1, 0, 0, 0, -1)], [0, 0, 6, 0, 0, 0]),
                            ([AXES_SWAPPED], [0, 2, 1, 0, 0, 0]),
                            ([AXES_TURNED], [0, 1, 1, 2, 0, 0]),
                            ([AXES_TURNED, AXES_SWAPPED], [0, 1, 1, 1, 0, 0]),
                            ([AXES_TURNED, TWO_MIRRORED], [0, 0, 1, 1, 1, 0]),
                            ([(0, -1, 0, 1, 0, 0, 0, 0, 1)], [0, 1, 1, 0, 2, 0]),
                            (CUBE, [0, 0, 1, 0, 1, 0])):
            with self.subTest(tables=tables):
                self.assertEqual(last(("begin", 3), *told(tables), ("fresh", 5)), new)

    def test_degree_0_and_each_up_to_the_greatest(self):
        for d in range(9):
            self.assertEqual(last(("table", QUARTER_TURN), ("fresh", d)), [0, 0, 1, 0, 2, 0, 0, 0, 0][:d + 1])
        for d in range(6):
            self.assertEqual(last(("begin", 3), *told(CUBE), ("fresh", d)), [0, 0, 1, 0, 1, 0][:d + 1])
        self.assertEqual(ask(("fresh", 0), ("begin", 3), ("fresh", 0)), [[0], [3], [0]])

    def test_another_choice_of_unknowns_has_as_many(self):
        # A quarter turn, told by unknowns that lie slanted to one another.
        self.assertEqual(ask(("table", (-1, -2, 1, 1)), ("fresh", 8)), [[4], [0, 0, 1, 0, 2, 0, 0, 0, 0]])

    def test_follows_the_tables_told(self):
        self.assertEqual(ask(("fresh", 2), ("table", SWAP), ("fresh", 2)), [[0, 2, 0], [2], [0, 1, 1]])
        self.assertEqual(ask(("table", SWAP), ("fresh", 2), ("begin", 2), ("fresh", 2)),
                         [[2], [0, 1, 1], [2], [0, 2, 0]])

    def test_other_degrees_are_refused(self):
        for d in (-FAR, -8, -1, 9, 10, FAR):
            with self.subTest(d=d):
                self.assertEqual(ask(("table", SWAP), ("fresh", d), ("fresh", 2)), [[2], [-1], [0, 1, 1]])
        for d in (-FAR, -1, 6, 7, 8, 9, FAR):
            with self.subTest(d=d):
                self.assertEqual(ask(("begin", 3), ("table", AXES_SWAPPED), ("fresh", d), ("fresh", 2)),
                                 [[3], [2], [-1], [0, 2, 1]])
