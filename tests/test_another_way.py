import random
import unittest

from leftalone.groups import answers
from tests.lines import (AXES_SWAPPED, AXES_TURNED, CUBE, FAR, GREATEST, ONE_MIRRORED, QUARTER_TURN, SIXTH_TURN,
                         SLANTED_CUBE, SLANTED_MIRROR, SWAP, apart, ask, flat, rows_told, scaled, told, weight, width)
from tests.oracle import Line, monomials


class AgainstAnotherWay(unittest.TestCase):
    """Lines drawn by chance, with a seed, are answered as the oracle answers them."""

    GOOD = {2: (SWAP, QUARTER_TURN, (0, -1, 1, 1), (0, -1, 1, -1), (1, 1, 0, -1), (-1, 0, 0, -1), (1, 2, 0, -1),
                (-1, -2, 1, 1), (1, 0, 0, -1), (2, -1, 1, 0), (2, -1, 2, -1), (1, 0, 1, -1), (-1, -1, 2, 1)),
            3: CUBE + ((-1, 0, 0, 0, -1, 0, 0, 0, -1), (1, 1, 0, 0, -1, 0, 0, 0, 1), (0, -1, 0, 1, 0, 0, 0, 0, 1),
                       (1, 0, 0, 1, -1, 1, 0, 0, 1), (-1, 0, 0, 1, 1, 0, 0, 0, 1), (0, 0, 1, 1, 0, 0, 0, 1, 0),
                       (1, 0, -1, 0, 1, -1, 0, 0, -1), (1, 0, 0, 0, 1, 0, 0, 0, 0))}

    def degree(self, draw, n):
        return draw.randint(0, GREATEST[n]) if draw.random() < 0.9 else draw.choice((-FAR, -1, GREATEST[n] + 1, FAR))

    def polynomial(self, draw, oracle, d):
        """Drawn by chance; most of them stay, and many of these are made of lower ones."""
        n = oracle.n
        if not 0 <= d <= GREATEST[n]:
            return [0] * draw.randint(0, 30)
        chance = draw.random()
        if chance < 0.1:
            return [draw.randint(-2, 2) for _ in range(draw.choice((0, width(n, d) - 1, width(n, d) + 1, 30)))]
        if chance < 0.2:
            return [draw.choice((-FAR, -1001, -1000, 0, 1000, 1001)) for _ in range(width(n, d))]
        if chance < 0.3:
            return [draw.randint(-3, 3) for _ in range(width(n, d))]
        if chance < 0.6 and d >= 2:
            return self.product(draw, oracle, d)
        return scaled(self.one_that_stays(draw, oracle, d))

    def one_that_stays(self, draw, oracle, d):
        found = [0] * width(oracle.n, d)
        for row in rows_told(oracle.n, d, oracle.stay(d)):
            times = draw.choice((0, 0, 1, 1, -2, 3))
            found = [x + times * y for x, y in zip(found, row)]
        return found

    def product(self, draw, oracle, d):
        n = oracle.n
        a = draw.randint(1, d - 1)
        first = self.one_that_stays(draw, oracle, a)
        second = self.one_that_stays(draw, oracle, d - a)
        found = dict.fromkeys(monomials(n, d), 0)
        for one, x in zip(monomials(n, a), first):
            for other, y in zip(monomials(n, d - a), second):
                found[tuple(p + q for p, q in zip(one, other))] += x * y
        return scaled(list(found.values()))

    def call(self, draw, oracle):
        n = oracle.n
        name = draw.choice(["table", "table", "table", "group", "counts", "stay", "mean", "stays", "makes", "makes",
                            "fresh"])
        if name == "group":
            return (name,)
        if name in ("counts", "stay", "fresh"):
            return (name, self.degree(draw, n))
        if name != "table":
            d = self.degree(draw, n)
            return (name, d, self.polynomial(draw, oracle, d))
        if draw.random() < 0.6:
            return (name, draw.choice(self.GOOD[n]))
        count = n * n if draw.random() < 0.9 else draw.randint(0, 20)
        great = draw.choice((1, 1, 2, 3))
        return (name, tuple(draw.randint(-great, great) for _ in range(count)))

    def line_and_answers(self, draw):
        """A line within what may be asked, and what the oracle answers to it."""
        oracle = Line()
        line = []
        expected = []
        for _ in range(draw.randint(1, 14)):
            call = self.call(draw, oracle)
            if draw.random() < 0.15:
                call = ("begin", draw.choice((1, 2, 3, 3, 3, 4)))
            if weight(line + [call]) <= 30:
                line.append(call)
                expected.append(oracle.answer(call))
        return line, expected

    def test_lines(self):
        draw = random.Random(48)
        for _ in range(400):
            line, expected = self.line_and_answers(draw)
            self.assertEqual(apart(answers(flat(line))), expected, line)

    def test_all_nine_about_many_groups(self):
        draw = random.Random(12)
        for n, tables in ((2, []), (2, [SWAP]), (2, [SLANTED_MIRROR]), (2, [(-1, -2, 1, 1)]), (2, [(0, -1, 1, -1)]),
                          (2, [SIXTH_TURN]), (2, [(2, -1, 1, 0)]), (3, []), (3, [AXES_TURNED]), (3, [AXES_SWAPPED]),
                          (3, [AXES_TURNED, AXES_SWAPPED]), (3, [AXES_SWAPPED, ONE_MIRRORED]), (3, CUBE),
                          (3, SLANTED_CUBE),
                          (3, [(-1, -2, -1, 1, 2, 2, -1, -1, 0)])):
            oracle = Line()
            for call in [("begin", n), *told(tables)]:
                oracle.answer(call)
            for d in range(GREATEST[n] + 1):
                line = [("begin", n), *told(tables), ("group",), ("counts", d), ("stay", d), ("fresh", d)]
                for name in ("mean", "stays", "makes", "makes"):
                    line.append((name, d, self.polynomial(draw, oracle, d)))
                again = Line()
                self.assertEqual(ask(*line), [again.answer(call) for call in line], line)

    def test_every_table_of_two_unknowns(self):
        numbers = range(-2, 3)
        for table in [(a, b, c, d) for a in numbers for b in numbers for c in numbers for d in numbers]:
            oracle = Line()
            line = [("table", table), ("group",), ("counts", 3), ("stay", 3), ("mean", 3, (1, 2, 3, 5)), ("fresh", 3)]
            self.assertEqual(ask(*line), [oracle.answer(call) for call in line], table)
