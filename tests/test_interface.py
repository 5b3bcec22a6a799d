import contextlib
import inspect
import io
import sys
import time
import unittest

from leftalone import groups
from tests.lines import CUBE, FAR, QUARTER_TURN, SIXTH_TURN, SLANTED_CUBE, SWAP, ask, flat, told, unit, weight


class FlatLists(unittest.TestCase):
    def test_the_instance_of_the_document(self):
        self.assertEqual(groups.answers([1, 4, 0, 1, 1, 0, 7, 4, 4, 2]),
                         [1, 2, 5, 0, 1, 1, 0, 0, 13, 2, 1, 1, 0, 1, 1, 1, 0, 1, 1, 1, 0, 1])

    def test_each_call_and_each_answer_by_its_numbers(self):
        self.assertEqual(groups.answers([0, 3, 0, 2, 2, 3, 2, 4, 0, 1, 0, 1, 1, 1, 0, 7]),
                         [1, 3, 1, 2, 5, 1, 1, 0, 0, 1, 3, 1, 2, 3, 3, 1, 1, 1, 1, -1, 1, -1, 1, -1])

    def test_the_calls_with_polynomials_by_their_numbers(self):
        self.assertEqual(groups.answers([1, 4, 0, 1, 1, 0, 5, 1, 2, -3, 0, 6, 1, 2, 4, 4, 8, 2, 3, 1, 2, 1, 7, 1]),
                         [1, 2, 4, -3, 2, -3, 2, 1, 1, 1, 1, 2, 0, 1])
        self.assertEqual(groups.answers([0, 3, 5, 0, 1, -1, 6, 0, 0, 8, 1, 3, 0, 0, 0, 7, 6, 2]),
                         [1, 3, 2, -1, 1, 1, -1, 1, 1, 1, -1, 10, 1, 1, 0, 0, 0, 1, 0, 0, 0, 1])

    def test_the_argument_is_called_calls(self):
        self.assertEqual(list(inspect.signature(groups.answers).parameters), ["calls"])
        self.assertEqual(groups.answers(calls=[2]), [5, 1, 1, 0, 0, 1])

    def test_whole_numbers_in_a_list(self):
        found = groups.answers(flat([("table", SWAP), ("group",), ("counts", 3), ("stay", 3), ("stay", 9),
                                     ("mean", 1, (1, 0)), ("stays", 1, (1, 0)), ("stays", 1, (1, 1)), ("fresh", 2),
                                     ("makes", 1, (1, 1)), ("makes", 1, (0, 0))]))
        self.assertIs(type(found), list)
        self.assertEqual({type(number) for number in found}, {int})

    def test_refused_rows_are_read_to_their_end(self):
        for count in range(21):
            if count != 4:
                self.assertEqual(groups.answers([1, count] + [2] * count + [2]), [1, -1, 5, 1, 1, 0, 0, 1])

    def test_refused_polynomials_are_read_to_their_end(self):
        for number in (5, 6, 8):
            for count in range(31):
                if count != 3:
                    with self.subTest(number=number, count=count):
                        self.assertEqual(groups.answers([number, 2, count] + [2] * count + [2]),
                                         [1, -1, 5, 1, 1, 0, 0, 1])

    def test_numbers_up_to_the_greatest_either_way(self):
        for far in (-FAR, FAR):
            self.assertEqual(ask(("begin", far), ("counts", far), ("stay", far), ("table", [far] * 20),
                                 ("table", [far] * 4), ("group",)), [[-1]] * 5 + [[1, 1, 0, 0, 1]])
            self.assertEqual(ask(("mean", far, [far] * 30), ("stays", far, [far] * 30), ("makes", far, [far] * 30),
                                 ("mean", 2, [far] * 3), ("stays", 2, [far] * 3), ("makes", 2, [far] * 3),
                                 ("fresh", far), ("group",)), [[-1]] * 7 + [[1, 1, 0, 0, 1]])

    def test_thirty_calls(self):
        self.assertEqual(ask(*[("table", [1] * 20)] * 30), [[-1]] * 30)
        self.assertEqual(ask(*[("group",)] * 30), [[1, 1, 0, 0, 1]] * 30)

    def test_the_longest_list(self):
        calls = flat([("mean", 8, [FAR] * 30)] * 30)
        self.assertEqual(len(calls), 990)
        self.assertEqual(groups.answers(calls), [1, -1] * 30)


class TheLinesThatAskTheMost(unittest.TestCase):
    """Each is as much as may be asked of one line, and ends in a short time."""

    SECONDS = 10
    BEGUN = [("begin", 3), *told(CUBE)]
    FIFTH = [k * 90 - 900 for k in range(21)]

    def quick(self, *line):
        self.assertEqual(weight(line), 30)
        before = time.perf_counter()
        found = ask(*line)
        self.assertLess(time.perf_counter() - before, self.SECONDS)
        return found

    def test_stay(self):
        found = self.quick(*self.BEGUN, *[("stay", 5), ("stay", 4)] * 4, ("counts", 5), ("group",))
        self.assertEqual(found[-2], [1, 0, 1, 0, 2, 0])
        self.assertEqual(found[4], [0])

    def test_fresh(self):
        found = self.quick(*self.BEGUN, ("fresh", 5), ("fresh", 5), *[("mean", 5, self.FIFTH)] * 6)
        self.assertEqual(found[4:6], [[0, 0, 1, 0, 1, 0]] * 2)
        self.assertEqual(found[6:], [[0, 1] * 21] * 6)
        self.assertEqual(self.quick(("fresh", 8), ("fresh", 8), ("fresh", 8)), [[0, 2, 0, 0, 0, 0, 0, 0, 0]] * 3)
        found = self.quick(("begin", 3), ("fresh", 5), ("fresh", 5), *[("makes", 5, self.FIFTH)] * 2, ("group",))
        self.assertEqual(found[1:5], [[0, 3, 0, 0, 0, 0]] * 2 + [[1]] * 2)
        found = self.quick(*told([SIXTH_TURN, SWAP]), ("fresh", 8), ("fresh", 8), *[("counts", 8)] * 8)
        self.assertEqual(found[2:4], [[0, 0, 1, 0, 0, 0, 1, 0, 0]] * 2)

    def test_of_48_tables_with_few_that_are_0(self):
        begun = [("begin", 3), *told(SLANTED_CUBE)]
        found = self.quick(*begun, ("fresh", 5), ("fresh", 5), *[("mean", 5, self.FIFTH)] * 5)
        self.assertEqual(found[4:], [[48]] + [[0, 0, 1, 0, 1, 0]] * 2 + [[0, 1] * 21] * 5)
        self.assertEqual(self.quick(*begun, *[("mean", 5, self.FIFTH)] * 25)[5:], [[0, 1] * 21] * 25)
        self.assertEqual(self.quick(*begun, *[("makes", 5, [0] * 21)] * 6, ("counts", 5))[5:-1], [[1]] * 6)

    def test_makes(self):
        found = self.quick(*self.BEGUN, *[("makes", 5, [0] * 21)] * 6, *[("stays", 5, self.FIFTH)] * 2)
        self.assertEqual(found[4:], [[1]] * 6 + [[0]] * 2)
        found = self.quick(("begin", 3), *[("makes", 5, self.FIFTH)] * 7, ("counts", 5))
        self.assertEqual(found[1:8], [[1]] * 7)

    def test_mean_and_stays(self):
        found = self.quick(*self.BEGUN, *[("mean", 5, self.FIFTH), ("stays", 5, self.FIFTH)] * 13)
        self.assertEqual(found[4:], [[0, 1] * 21, [0]] * 13)

    def test_all_nine(self):
        square = (1, 0, 0, 2, 0, 2, 0, 0, 0, 0, 1, 0, 2, 0, 1)
        found = self.quick(*self.BEGUN, ("group",), ("counts", 5), ("stay", 4), ("mean", 4, unit(3, 4, 3)),
                           ("stays", 4, square), ("fresh", 5), ("makes", 4, square), ("makes", 4, unit(3, 4, 0)),
                           ("counts", 6))
        self.assertEqual(found[5], [1, 0, 1, 0, 2, 0])
        self.assertEqual(found[6][0], 2)
        self.assertEqual(found[7], [0, 1] * 3 + [1, 3, 0, 1, 1, 3] + [0, 1] * 6 + [1, 3] + [0, 1] * 2)
        self.assertEqual(found[8:], [[1], [0, 0, 1, 0, 1, 0], [1], [-4], [-1]])


class AsItWas(unittest.TestCase):
    """A refusal changes nothing for any call behind it."""

    BEHIND = [("group",), ("counts", 4), ("stay", 2), ("mean", 2, (1, 0, 0)), ("stays", 2, (1, 0, 1)),
              ("fresh", 3), ("makes", 2, (1, 2, 1))]

    def test_behind_each_refusal(self):
        begun = [("table", SWAP)]
        before = ask(*begun, *self.BEHIND)
        for wrong in (("begin", 4), ("table", (1, 1, 0, 1)), ("table", (1, 0, 0, 0)), ("table", (1,)), ("counts", 9),
                      ("stay", -1), ("mean", 9, (1,) * 10), ("mean", 2, ()), ("mean", 2, (1001, 0, 0)),
                      ("stays", -1, ()), ("stays", 2, (1, 2)), ("stays", 2, (0, 0, FAR)), ("makes", 2, (1, 0, -1001)),
                      ("makes", 2, (1, 0, 0)), ("makes", -FAR, (1, 0, 0))):
            with self.subTest(wrong=wrong):
                found = ask(*begun, wrong, *self.BEHIND)
                self.assertEqual(len(found[1]), 1)
                self.assertLess(found[1][0], 0)
                self.assertEqual(found[:1] + found[2:], before)
        # Behind fresh not fresh again, for with both the line would be asked too much.
        found = ask(*begun, ("fresh", 9), *self.BEHIND[:5], self.BEHIND[6])
        self.assertEqual(found, before[:1] + [[-1]] + before[1:6] + before[7:])


class NothingKept(unittest.TestCase):
    LINE = [("table", SWAP), ("counts", 8), ("stay", 4), ("table", QUARTER_TURN), ("group",), ("stay", 9),
            ("table", (1, 0, 0, 0)), ("begin", 3), *told(CUBE), ("stay", 2), ("group",)]
    OTHER = [("table", SWAP), ("mean", 2, (1, 0, 0)), ("stays", 2, (1, 0, 1)), ("fresh", 4), ("makes", 2, (1, 2, 1)),
             ("makes", 2, (1, 2, 2)), ("mean", 2, (1, 0)), ("begin", 3), ("mean", 1, (1, 2, 3))]

    def test_the_list_is_not_changed(self):
        for line in (self.LINE, self.OTHER):
            calls = flat(line)
            before = list(calls)
            groups.answers(calls)
            self.assertEqual(calls, before)

    def test_the_list_is_not_changed_for_a_while_either(self):
        class Watched(list):
            def refuse(self, *given):
                raise AssertionError("the list is changed")

            __setitem__ = __delitem__ = __iadd__ = __imul__ = refuse
            append = extend = insert = pop = remove = clear = sort = reverse = refuse

        for line in (self.LINE, self.OTHER):
            calls = flat(line)
            self.assertEqual(groups.answers(Watched(calls)), groups.answers(calls))

    def test_a_second_time_answers_as_the_first(self):
        for line in (self.LINE, self.OTHER):
            calls = flat(line)
            first = groups.answers(calls)
            self.assertEqual(groups.answers(calls), first)
            self.assertEqual(groups.answers([2, 7, 2]), [5, 1, 1, 0, 0, 1, 3, 0, 2, 0])
            self.assertEqual(groups.answers(calls), first)

    def test_what_is_given_back_is_the_callers_own(self):
        first = groups.answers([2])
        first[:] = [0] * 9
        self.assertEqual(groups.answers([2]), [5, 1, 1, 0, 0, 1])

    def test_nothing_is_printed_or_read(self):
        printed = io.StringIO()
        before = sys.stdin
        sys.stdin = None
        try:
            with contextlib.redirect_stdout(printed), contextlib.redirect_stderr(printed):
                groups.answers(flat(self.LINE))
                groups.answers(flat(self.OTHER))
        finally:
            sys.stdin = before
        self.assertEqual(printed.getvalue(), "")

    def test_no_deep_nesting(self):
        for line in (self.LINE + [("group",)] * 10, self.OTHER, [("fresh", 8), ("makes", 8, [1] * 9)]):
            calls = flat(line)
            expected = groups.answers(calls)
            before = sys.getrecursionlimit()
            sys.setrecursionlimit(len(inspect.stack()) + 40)
            try:
                found = groups.answers(calls)
            finally:
                sys.setrecursionlimit(before)
            self.assertEqual(found, expected)
