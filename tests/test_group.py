import unittest

from tests.lines import CUBE, QUARTER_TURN, SIXTH_TURN, SWAP, ask, last, told


class Group(unittest.TestCase):
    def test_without_any_table_it_is_nothing_done(self):
        self.assertEqual(last(("group",)), [1, 1, 0, 0, 1])
        self.assertEqual(last(("begin", 3), ("group",)), [1, 1, 0, 0, 0, 1, 0, 0, 0, 1])

    def test_in_order_the_lesser_number_first(self):
        self.assertEqual(last(("table", QUARTER_TURN), ("group",)),
                         [4, -1, 0, 0, -1, 0, -1, 1, 0, 0, 1, -1, 0, 1, 0, 0, 1])
        self.assertEqual(last(("table", SIXTH_TURN), ("group",)),
                         [6, -1, -1, 1, 0, -1, 0, 0, -1, 0, -1, 1, 1, 0, 1, -1, -1, 1, 0, 0, 1, 1, 1, -1, 0])

    def test_two_tables_make_all_that_come_one_behind_another(self):
        signs = (-1, 1)
        square = sorted([(a, 0, 0, b) for a in signs for b in signs] + [(0, a, b, 0) for a in signs for b in signs])
        flat = [number for table in square for number in table]
        self.assertEqual(last(("table", SWAP), ("table", QUARTER_TURN), ("group",)), [8] + flat)

    def test_the_order_of_telling_does_not_matter(self):
        first = last(("begin", 3), *told(CUBE), ("group",))
        second = last(("begin", 3), *told(CUBE[::-1]), ("group",))
        self.assertEqual(first, second)

    def test_of_just_48(self):
        answer = last(("begin", 3), *told(CUBE), ("group",))
        tables = [tuple(answer[k:k + 9]) for k in range(1, len(answer), 9)]
        self.assertEqual((answer[0], len(answer)), (48, 1 + 48 * 9))
        self.assertEqual(tables, sorted(set(tables)))
        for table in tables:
            rows = [table[k:k + 3] for k in (0, 3, 6)]
            for line in rows + list(zip(*rows)):
                self.assertEqual(sorted(map(abs, line)), [0, 0, 1])

    def test_asking_changes_nothing(self):
        found = ask(("table", SWAP), ("group",), ("group",), ("table", QUARTER_TURN))
        self.assertEqual(found[1], found[2])
        self.assertEqual(found[3], [8])

    def test_numbers_beyond_those_that_may_be_told(self):
        twice = (0, -1, -3, -1, 0, 3, 0, 0, -1)
        found = ask(("begin", 3), ("table", (-1, -2, -1, 1, 2, 2, -1, -1, 0)), ("table", twice), ("group",))
        self.assertEqual(found[1:3], [[4], [-1]])
        self.assertEqual(found[3], [4, -1, -2, -1, 1, 2, 2, -1, -1, 0, *twice,
                                    1, 0, 0, 0, 1, 0, 0, 0, 1, 2, 1, -2, -2, -1, 1, 1, 1, 0])
