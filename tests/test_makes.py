import unittest

from tests.lines import (AXES_SWAPPED, AXES_TURNED, CUBE, FAR, GREATEST, QUARTER_TURN, SIXTH_TURN, SLANTED_MIRROR, SWAP,
                         ask, last, rows_told, scaled, told, unit, width)


class Makes(unittest.TestCase):
    def test_swapped_unknowns(self):
        for d, polynomial, answer in ((2, (1, 2, 1), 1), (2, (-3, -6, -3), 1), (2, (0, 1, 0), 0), (2, (1, 0, 1), 0),
                                      (2, (1, 3, 1), 0), (2, (0, 0, 0), 1), (3, (1, 0, 0, 1), 1), (3, (0, 1, 1, 0), 1),
                                      (3, (7, -5, -5, 7), 1), (4, (1, 0, 0, 0, 1), 1), (4, (0, 0, 1, 0, 0), 1)):
            with self.subTest(polynomial=polynomial):
                self.assertEqual(last(("table", SWAP), ("makes", d, polynomial)), [answer])

    def test_a_quarter_turn(self):
        square = (1, 0, 2, 0, 1)
        for polynomial, answer in ((square, 1), ((1, 0, 0, 0, 1), 0), ((0, 0, 1, 0, 0), 0), ((0, 1, 0, -1, 0), 0),
                                   ((1, 5, 2, -5, 1), 0), ((-500, 0, -1000, 0, -500), 1)):
            with self.subTest(polynomial=polynomial):
                self.assertEqual(last(("table", QUARTER_TURN), ("makes", 4, polynomial)), [answer])
        self.assertEqual(last(("table", QUARTER_TURN), ("makes", 2, (1, 0, 1))), [0])
        # (x x + y y) times (x x x y less x y y y)
        self.assertEqual(last(("table", QUARTER_TURN), ("makes", 6, (0, 1, 0, 0, 0, -1, 0))), [1])

    def test_products_of_two_of_the_same_degree(self):
        # Of degree 1 none stays, so what is made of degree 4 is made of two of degree 2, and so on.
        minus = ("table", (-1, 0, 0, -1))
        self.assertEqual(ask(minus, ("makes", 2, (1, 0, 0)), ("makes", 4, (0, 0, 1, 0, 0)),
                             ("makes", 4, (1, 2, 3, 4, 5)), ("makes", 6, (1, 0, 0, 0, 0, 0, 1))),
                         [[2], [0], [1], [1], [1]])

    def test_sums_of_new_ones_and_of_those_made(self):
        turn = ("begin", 3), ("table", AXES_TURNED)
        cube = (1, 3, 3, 3, 6, 3, 1, 3, 3, 1)
        new = (0, 1, 0, 0, 0, 1, 0, 1, 0, 0)
        both = [x + y for x, y in zip(cube, new)]
        # All of x x y and its like, added: (x + y + z)(x y + y z + z x) less 3 x y z.
        even = (0, 1, 1, 1, 3, 1, 0, 1, 1, 0)
        self.assertEqual(ask(*turn, *[("makes", 3, polynomial) for polynomial in (cube, new, both, even)])[2:],
                         [[1], [0], [0], [1]])
        self.assertEqual(last(*turn, ("makes", 3, (0, 1, 1, 1, 0, 1, 0, 1, 1, 0))), [0])
        # Of degree 4 all is made of lower ones.
        self.assertEqual(last(*turn, ("makes", 4, (1, 0, 0, 0, 0, 0, 0, 0, 0, 0, 1, 0, 0, 0, 1))), [1])

    def test_made_with_fractions_only(self):
        # x becomes x + y, y becomes -y: x with half of y stays, and squared it is a quarter of the first asked.
        mirror = ("table", SLANTED_MIRROR)
        self.assertEqual(ask(mirror, ("makes", 2, (4, 4, 1)), ("makes", 2, (1, 1, 0)), ("makes", 2, (8, 8, 2)),
                             ("makes", 4, (1, 2, 1, 0, 0)), ("makes", 3, (2, 3, 1, 0)), ("makes", 3, (4, 6, 2, 0))),
                         [[2], [1], [0], [1], [1], [1], [1]])

    def test_without_any_table(self):
        self.assertEqual(ask(("makes", 1, (1, 0)), ("makes", 1, (0, 0)), ("makes", 2, (0, 1, 0)),
                             ("makes", 2, (1, 2, 3)), ("makes", 8, range(9))), [[0], [1], [1], [1], [1]])
        self.assertEqual(ask(("begin", 3), ("makes", 1, (0, 0, 1)), ("makes", 2, (0, 0, 0, 0, 0, 1)),
                             ("makes", 5, range(21))), [[3], [0], [1], [1]])

    def test_of_degrees_0_and_1_just_0_is(self):
        for number in (-1000, -1, 1, 2, 1000):
            self.assertEqual(ask(("makes", 0, [number]), ("makes", 1, (number, number)), ("table", SWAP),
                                 ("makes", 0, [number]), ("makes", 1, (number, number))), [[0], [0], [2], [0], [0]])
            self.assertEqual(ask(("begin", 3), *told(CUBE[:2]), ("makes", 0, [number]),
                                 ("makes", 1, [number] * 3))[-2:], [[0], [0]])
        self.assertEqual(ask(("makes", 0, [0]), ("makes", 1, (0, 0)), ("table", SWAP), ("makes", 0, [0]),
                             ("makes", 1, (0, 0))), [[1], [1], [2], [1], [1]])

    def test_0_is_made_whatever_its_degree(self):
        for n, tables in ((2, []), (2, [QUARTER_TURN]), (2, [SIXTH_TURN, SWAP]), (3, []), (3, CUBE)):
            for d in range(GREATEST[n] + 1):
                with self.subTest(n=n, tables=tables, d=d):
                    self.assertEqual(last(("begin", n), *told(tables), ("makes", d, [0] * width(n, d))), [1])

    def test_of_48_tables(self):
        begun = [("begin", 3), *told(CUBE)]
        square = (1, 0, 0, 2, 0, 2, 0, 0, 0, 0, 1, 0, 2, 0, 1)
        fourth = (1, 0, 0, 0, 0, 0, 0, 0, 0, 0, 1, 0, 0, 0, 1)
        self.assertEqual(ask(*begun, ("makes", 2, (1, 0, 0, 1, 0, 1)), ("makes", 4, square), ("makes", 4, fourth),
                             ("makes", 5, [0] * 21))[-4:], [[0], [1], [0], [1]])

    def test_of_the_greatest_degrees(self):
        even = [1, 0, 0, 0, 0, 0, 0, 0, 1]
        self.assertEqual(ask(("table", QUARTER_TURN), ("table", SWAP), ("makes", 8, even)), [[4], [8], [1]])
        # Of a sixth turn the new ones are of degrees 2 and 6: what stays of degree 8 is made of these.
        rows = rows_told(2, 8, last(("table", SIXTH_TURN), ("stay", 8)))
        self.assertEqual(len(rows), 3)
        for row in rows:
            self.assertEqual(last(("table", SIXTH_TURN), ("makes", 8, scaled(row))), [1])
        fifth = [int(k in (0, 15, 20)) for k in range(21)]
        self.assertEqual(last(("begin", 3), *told(CUBE[:2]), ("makes", 5, fifth)), [1])

    def test_as_many_are_new_as_fresh_says(self):
        # Of degrees where all that stays is new, none of those told is made of lower ones, and the other way round.
        third_turn = (0, -1, 1, -1)
        for table, d, answer in ((SIXTH_TURN, 2, 0), (SIXTH_TURN, 4, 1), (third_turn, 3, 0), (third_turn, 5, 1)):
            for row in rows_told(2, d, last(("table", table), ("stay", d))):
                with self.subTest(table=table, d=d, row=row):
                    self.assertEqual(last(("table", table), ("makes", d, scaled(row))), [answer])


class DoesNotStay(unittest.TestCase):
    def test_what_does_not_stay(self):
        for table, d, polynomial in ((SWAP, 1, (1, 0)), (SWAP, 1, (1, -1)), (SWAP, 2, (1, 0, 0)), (SWAP, 2, (1, 2, 2)),
                                     (QUARTER_TURN, 1, (1, 1)), (QUARTER_TURN, 4, (1, 0, 2, 0, 2)),
                                     (QUARTER_TURN, 2, (1, 2, 1)), (SIXTH_TURN, 8, unit(2, 8, 0)),
                                     (SWAP, 1, (1000, -1000))):
            with self.subTest(table=table, polynomial=polynomial):
                self.assertEqual(last(("table", table), ("makes", d, polynomial)), [-4])
        self.assertEqual(last(("begin", 3), *told(CUBE), ("makes", 5, unit(3, 5, 0))), [-4])

    def test_a_product_of_what_does_not_stay(self):
        # x x less y y is (x + y)(x less y), of which only the first stays.
        self.assertEqual(last(("table", SWAP), ("makes", 2, (1, 0, -1))), [-4])

    def test_all_is_as_it_was(self):
        found = ask(("table", SWAP), ("makes", 1, (1, 0)), ("group",), ("counts", 4), ("fresh", 2),
                    ("makes", 1, (1, 1)))
        self.assertEqual(found, [[2], [-4], [2, 0, 1, 1, 0, 1, 0, 0, 1], [1, 1, 2, 2, 3], [0, 1, 1], [0]])


class Refused(unittest.TestCase):
    TABLES = {2: SWAP, 3: AXES_SWAPPED}

    def check(self, n, d, polynomial):
        with self.subTest(n=n, d=d, polynomial=polynomial):
            self.assertEqual(ask(("begin", n), ("table", self.TABLES[n]), ("makes", d, polynomial),
                                 ("makes", 1, [1] * n), ("makes", 1, [0] * n)), [[n], [2], [-1], [0], [1]])

    def test_other_degrees(self):
        for d in (-FAR, -9, -2, -1, 9, 10, FAR):
            for count in (0, 1, 2, 3, 10, 11, 30):
                self.check(2, d, [0] * count)
        for d in (-FAR, -3, -2, -1, 6, 7, 8, FAR):
            for count in (0, 1, 3, 21, 28, 30):
                self.check(3, d, [0] * count)

    def test_other_counts_of_numbers(self):
        for n in (2, 3):
            for d in range(GREATEST[n] + 1):
                for count in range(31):
                    if count != width(n, d):
                        self.check(n, d, [0] * count)

    def test_numbers_that_are_too_great_at_each_place(self):
        # Most of these don't stay either: the refusal told first is answered.
        for n, d in ((2, 0), (2, 2), (2, 8), (3, 1), (3, 5)):
            for place in range(width(n, d)):
                for number in (-FAR, -1001, 1001, FAR):
                    self.check(n, d, [number * x for x in unit(n, d, place)])

    def test_where_it_does_not_stay_either(self):
        self.check(2, 1, (1, 0, 0))
        self.check(2, 1, (1,))
        self.check(2, 1, (1001, 0))
        self.check(2, 9, unit(2, 9, 0))
        self.check(3, 6, unit(3, 6, 0))

    def test_the_greatest_that_are_let(self):
        self.assertEqual(ask(("table", SWAP), ("makes", 1, (1000, 1000)), ("makes", 2, (-500, -1000, -500)),
                             ("makes", 3, [1000] * 4)), [[2], [0], [1], [1]])
