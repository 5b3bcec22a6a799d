"""Lines of calls for the tests: written as tuples, handed in flat, and their answers apart again."""

from fractions import Fraction
from math import lcm

from leftalone.groups import answers

NUMBERS = {"begin": 0, "table": 1, "group": 2, "counts": 3, "stay": 4, "mean": 5, "stays": 6, "fresh": 7, "makes": 8}
WEIGHTS = {"fresh": 10, "makes": 4, "stay": 3}
GREATEST = {2: 8, 3: 5}

FAR = 4294967295

SWAP = (0, 1, 1, 0)
QUARTER_TURN = (0, -1, 1, 0)
SIXTH_TURN = (0, -1, 1, 1)
SHEAR = (1, 1, 0, 1)
SLANTED_MIRROR = (1, 1, 0, -1)

AXES_TURNED = (0, 1, 0, 0, 0, 1, 1, 0, 0)
AXES_SWAPPED = (0, 1, 0, 1, 0, 0, 0, 0, 1)
ONE_MIRRORED = (-1, 0, 0, 0, 1, 0, 0, 0, 1)
TWO_MIRRORED = (-1, 0, 0, 0, -1, 0, 0, 0, 1)
CUBE = (AXES_TURNED, AXES_SWAPPED, ONE_MIRRORED)
# 48 tables, too, by unknowns that lie slanted to one another, so that few of the tables' numbers are 0.
SLANTED_CUBE = ((-1, 0, 0, 0, -1, 0, 0, 0, -1), (-1, 0, 0, -1, -1, -1, 2, 0, 1), (-1, 2, 2, 0, 1, 2, 0, 0, -1),
                (-1, 2, 2, 0, 1, 2, -2, 1, -1))


def weight(line):
    """How many calls the line has, the slow ones counted several times."""
    return sum(WEIGHTS.get(call[0], 1) for call in line)


def flat(line):
    """A call is a name, then whole numbers, then a row if it has one: ("mean", 2, (1, 0, 0))."""
    calls = []
    for call in line:
        calls.append(NUMBERS[call[0]])
        for given in call[1:]:
            if isinstance(given, int):
                calls.append(given)
            else:
                calls.append(len(given))
                calls.extend(given)
    return calls


def apart(numbers):
    found = []
    place = 0
    while place < len(numbers):
        count = numbers[place]
        found.append(numbers[place + 1:place + 1 + count])
        place += 1 + count
    assert place == len(numbers)
    return found


def ask(*line):
    """The answers to the calls of a line, a list for each."""
    calls = flat(line)
    assert 1 <= weight(line) <= 30 and len(calls) <= 990, "no such line is handed in"
    found = apart(answers(calls))
    assert len(found) == len(line)
    return found


def told(tables):
    return [("table", table) for table in tables]


def last(*line):
    """The answer to the last call of a line."""
    return ask(*line)[-1]


def whole(*numbers):
    """Whole numbers told as fractions."""
    found = []
    for number in numbers:
        found.extend([number, 1])
    return found


def width(n, d):
    """How many monomials there are."""
    return d + 1 if n == 2 else (d + 1) * (d + 2) // 2


def unit(n, d, place):
    """The polynomial that is one monomial, the one at the place."""
    return [int(k == place) for k in range(width(n, d))]


def fractions(answer):
    """The numbers of an answer, two by two, as fractions."""
    return [Fraction(above, below) for above, below in zip(answer[::2], answer[1::2], strict=True)]


def scaled(numbers):
    """The least multiple of the fractions that is whole."""
    below = lcm(*[number.denominator for number in numbers])
    return [int(number * below) for number in numbers]


def rows_told(n, d, answer):
    """The rows of an answer to stay, each of fractions."""
    numbers = fractions(answer[1:])
    return [numbers[k:k + width(n, d)] for k in range(0, len(numbers), width(n, d))]
