import contextlib
import inspect
import io
import random
import sys
import unittest

from leftalone import groups
from tests.lines import CUBE, FAR, QUARTER_TURN, SWAP, apart, ask, flat, told
from tests.oracle import Line


class FlatLists(unittest.TestCase):
    def test_the_instance_of_the_document(self):
        self.assertEqual(groups.answers([1, 4, 0, 1, 1, 0, 4, 2]),
                         [1, 2, 13, 2, 1, 1, 0, 1, 1, 1, 0, 1, 1, 1, 0, 1])

    def test_each_call_and_each_answer_by_its_numbers(self):
        self.assertEqual(groups.answers([0, 3, 0, 2, 2, 3, 2, 4, 0, 1, 0, 1, 1, 1, 0, 7]),
                         [1, 3, 1, 2, 5, 1, 1, 0, 0, 1, 3, 1, 2, 3, 3, 1, 1, 1, 1, -1, 1, -1, 1, -1])

    def test_the_argument_is_called_calls(self):
        self.assertEqual(list(inspect.signature(groups.answers).parameters), ["calls"])
        self.assertEqual(groups.answers(calls=[2]), [5, 1, 1, 0, 0, 1])

    def test_whole_numbers_in_a_list(self):
        found = groups.answers(flat([("table", SWAP), ("group",), ("counts", 3), ("stay", 3), ("stay", 9)]))
        self.assertIs(type(found), list)
        self.assertEqual({type(number) for number in found}, {int})

    def test_refused_rows_are_read_to_their_end(self):
        for count in range(21):
            if count != 4:
                self.assertEqual(groups.answers([1, count] + [2] * count + [2]), [1, -1, 5, 1, 1, 0, 0, 1])

    def test_numbers_up_to_the_greatest_either_way(self):
        for far in (-FAR, FAR):
            self.assertEqual(ask(("begin", far), ("counts", far), ("stay", far), ("table", [far] * 20),
                                 ("table", [far] * 4), ("group",)), [[-1]] * 5 + [[1, 1, 0, 0, 1]])

    def test_thirty_calls(self):
        self.assertEqual(ask(*[("table", [1] * 20)] * 30), [[-1]] * 30)
        self.assertEqual(ask(*[("group",)] * 30), [[1, 1, 0, 0, 1]] * 30)

    def test_the_line_that_asks_the_most(self):
        found = ask(("begin", 3), *told(CUBE), *[("stay", 5), ("stay", 4)] * 4, ("counts", 5), ("group",))
        self.assertEqual(found[-2], [1, 0, 1, 0, 2, 0])
        self.assertEqual(found[4], [0])


class NothingKept(unittest.TestCase):
    LINE = [("table", SWAP), ("counts", 8), ("stay", 4), ("table", QUARTER_TURN), ("group",), ("stay", 9),
            ("table", (1, 0, 0, 0)), ("begin", 3), *told(CUBE), ("stay", 2), ("group",)]

    def test_the_list_is_not_changed(self):
        calls = flat(self.LINE)
        before = list(calls)
        groups.answers(calls)
        self.assertEqual(calls, before)

    def test_the_list_is_not_changed_for_a_while_either(self):
        class Watched(list):
            def refuse(self, *given):
                raise AssertionError("the list is changed")

            __setitem__ = __delitem__ = __iadd__ = __imul__ = refuse
            append = extend = insert = pop = remove = clear = sort = reverse = refuse

        calls = flat(self.LINE)
        self.assertEqual(groups.answers(Watched(calls)), groups.answers(calls))

    def test_a_second_time_answers_as_the_first(self):
        calls = flat(self.LINE)
        first = groups.answers(calls)
        self.assertEqual(groups.answers(calls), first)
        self.assertEqual(groups.answers([2]), [5, 1, 1, 0, 0, 1])
        self.assertEqual(groups.answers(calls), first)

    def test_what_is_given_back_is_the_callers_own(self):
        first = groups.answers([2])
        first[:] = [0] * 9
        self.assertEqual(groups.answers([2]), [5, 1, 1, 0, 0, 1])

    def test_nothing_is_printed_or_read(self):
        printed = io.StringIO()
        before = sys.stdin
        sys.stdin = None
        try:
            with contextlib.redirect_stdout(printed), contextlib.redirect_stderr(printed):
                groups.answers(flat(self.LINE))
        finally:
            sys.stdin = before
        self.assertEqual(printed.getvalue(), "")

    def test_no_deep_nesting(self):
        calls = flat(self.LINE + [("group",)] * 10)
        expected = groups.answers(calls)
        before = sys.getrecursionlimit()
        sys.setrecursionlimit(len(inspect.stack()) + 40)
        try:
            found = groups.answers(calls)
        finally:
            sys.setrecursionlimit(before)
        self.assertEqual(found, expected)


class AgainstAnotherWay(unittest.TestCase):
    """Lines drawn by chance, with a seed, are answered as the oracle answers them."""

    GOOD = {2: (SWAP, QUARTER_TURN, (0, -1, 1, 1), (0, -1, 1, -1), (1, 1, 0, -1), (-1, 0, 0, -1), (1, 2, 0, -1),
                (-1, -2, 1, 1), (1, 0, 0, -1), (2, -1, 1, 0), (2, -1, 2, -1), (1, 0, 1, -1), (-1, -1, 2, 1)),
            3: CUBE + ((-1, 0, 0, 0, -1, 0, 0, 0, -1), (1, 1, 0, 0, -1, 0, 0, 0, 1), (0, -1, 0, 1, 0, 0, 0, 0, 1),
                       (1, 0, 0, 1, -1, 1, 0, 0, 1), (-1, 0, 0, 1, 1, 0, 0, 0, 1), (0, 0, 1, 1, 0, 0, 0, 1, 0),
                       (1, 0, -1, 0, 1, -1, 0, 0, -1), (1, 0, 0, 0, 1, 0, 0, 0, 0))}

    def call(self, draw, n):
        name = draw.choice(["table", "table", "table", "group", "counts", "stay"])
        if name == "group":
            return (name,)
        if name != "table":
            return (name, draw.randint(-1, {2: 9, 3: 5}[n] if draw.random() < 0.9 else FAR))
        if draw.random() < 0.6:
            return (name, draw.choice(self.GOOD[n]))
        width = n * n if draw.random() < 0.9 else draw.randint(0, 20)
        great = draw.choice((1, 1, 2, 3))
        return (name, tuple(draw.randint(-great, great) for _ in range(width)))

    def line(self, draw):
        n = 2
        line = []
        for _ in range(draw.randint(1, 8)):
            if draw.random() < 0.2:
                begun = draw.choice((1, 2, 3, 3, 3, 4))
                n = begun if begun in (2, 3) else n
                line.append(("begin", begun))
            line.append(self.call(draw, n))
        return line

    def test_lines(self):
        draw = random.Random(48)
        for _ in range(400):
            line = self.line(draw)
            oracle = Line()
            expected = [oracle.answer(call) for call in line]
            self.assertEqual(apart(groups.answers(flat(line))), expected, line)

    def test_every_table_of_two_unknowns(self):
        numbers = range(-2, 3)
        for table in [(a, b, c, d) for a in numbers for b in numbers for c in numbers for d in numbers]:
            oracle = Line()
            line = [("table", table), ("group",), ("counts", 3), ("stay", 3)]
            self.assertEqual(ask(*line), [oracle.answer(call) for call in line], table)
