"""Lines of calls for the tests: written as tuples, handed in flat, and their answers apart again."""

from leftalone.groups import answers

NUMBERS = {"begin": 0, "table": 1, "group": 2, "counts": 3, "stay": 4}

FAR = 4294967295

SWAP = (0, 1, 1, 0)
QUARTER_TURN = (0, -1, 1, 0)
SIXTH_TURN = (0, -1, 1, 1)
SHEAR = (1, 1, 0, 1)
SLANTED_MIRROR = (1, 1, 0, -1)

AXES_TURNED = (0, 1, 0, 0, 0, 1, 1, 0, 0)
AXES_SWAPPED = (0, 1, 0, 1, 0, 0, 0, 0, 1)
ONE_MIRRORED = (-1, 0, 0, 0, 1, 0, 0, 0, 1)
CUBE = (AXES_TURNED, AXES_SWAPPED, ONE_MIRRORED)


def flat(line):
    """table(row) is ("table", row); all other calls are a name and whole numbers."""
    calls = []
    for call in line:
        calls.append(NUMBERS[call[0]])
        if call[0] == "table":
            calls.append(len(call[1]))
            calls.extend(call[1])
        else:
            calls.extend(call[1:])
    return calls


def apart(numbers):
    found = []
    place = 0
    while place < len(numbers):
        count = numbers[place]
        found.append(numbers[place + 1:place + 1 + count])
        place += 1 + count
    assert place == len(numbers)
    return found


def ask(*line):
    """The answers to the calls of a line, a list for each."""
    found = apart(answers(flat(line)))
    assert len(found) == len(line)
    return found


def told(tables):
    return [("table", table) for table in tables]


def last(*line):
    """The answer to the last call of a line."""
    return ask(*line)[-1]


def whole(*numbers):
    """Whole numbers told as fractions."""
    found = []
    for number in numbers:
        found.extend([number, 1])
    return found
