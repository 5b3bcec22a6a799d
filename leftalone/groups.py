"""The calls about one group of tables: answers(calls) reads them from a flat list and answers them."""

from leftalone.counting import counts_that_stay
from leftalone.polynomials import sums_of_moved
from leftalone.rows import fewest_rows
from leftalone.rows import told_row
from leftalone.tables import can_be_undone
from leftalone.tables import group_of
from leftalone.tables import nothing_done

NOT_ALLOWED = -1
TOO_MANY_TABLES = -2
NOT_UNDONE = -6

UNKNOWNS_AT_FIRST = 2
GREATEST_DEGREES = {2: 8, 3: 5}
GREATEST_IN_TABLE = 2

BEGIN = 0
TABLE = 1
GROUP = 2
COUNTS = 3
STAY = 4

# For each call by its number: how many whole numbers it has, and whether a row with its length follows.
WHOLE_NUMBERS = (1, 0, 0, 1, 1, 1, 1, 1, 1)
HAS_ROW = (False, True, False, False, False, True, True, False, True)


class Line:
    """What the calls are about: how many unknowns there are, the tables told and all that they make."""

    def __init__(self):
        self.unknowns = UNKNOWNS_AT_FIRST
        self.told = []
        self.tables = [nothing_done(UNKNOWNS_AT_FIRST)]

    def begin(self, n):
        if n not in GREATEST_DEGREES:
            return [NOT_ALLOWED]
        self.unknowns = n
        self.told = []
        self.tables = [nothing_done(n)]
        return [n]

    def table(self, numbers):
        if not is_table(self.unknowns, numbers):
            return [NOT_ALLOWED]
        told = self.told + [tuple(numbers)]
        tables = group_of(self.unknowns, told)
        if tables is None:
            return [TOO_MANY_TABLES]
        if not can_be_undone(self.unknowns, tuple(numbers), tables):
            return [NOT_UNDONE]
        self.told = told
        self.tables = tables
        return [len(tables)]

    def group(self):
        answer = [len(self.tables)]
        for table in self.tables:
            answer.extend(table)
        return answer

    def counts(self, d):
        if not self.allows_degree(d):
            return [NOT_ALLOWED]
        return counts_that_stay(self.unknowns, self.tables, d)

    def stay(self, d):
        if not self.allows_degree(d):
            return [NOT_ALLOWED]
        # What stays is its own mean, so the means of the monomials make all that stay.
        rows = fewest_rows(sums_of_moved(self.unknowns, self.tables, d))
        answer = [len(rows)]
        for row in rows:
            answer.extend(told_row(row))
        return answer

    def allows_degree(self, d):
        return 0 <= d <= GREATEST_DEGREES[self.unknowns]


def is_table(n, numbers):
    """Whether these are the numbers of a table that may be told."""
    return len(numbers) == n * n and all([abs(number) <= GREATEST_IN_TABLE for number in numbers])


def end_of_call(calls, place):
    """The place behind the call that begins at the place."""
    end = place + 1 + WHOLE_NUMBERS[calls[place]]
    if HAS_ROW[calls[place]]:
        end += 1 + calls[end]
    return end


def answer_of(line, call):
    """What the line answers to one call, of its number and all that follows it."""
    if call[0] == BEGIN:
        return line.begin(call[1])
    if call[0] == TABLE:
        return line.table(call[2:])
    if call[0] == GROUP:
        return line.group()
    if call[0] == COUNTS:
        return line.counts(call[1])
    if call[0] == STAY:
        return line.stay(call[1])
    raise NotImplementedError("mean, stays, fresh and makes are not built yet")


def answers(calls):
    """For each call in the flat list, in order: how many numbers are answered, and these."""
    line = Line()
    answered = []
    place = 0
    while place < len(calls):
        end = end_of_call(calls, place)
        answer = answer_of(line, calls[place:end])
        answered.append(len(answer))
        answered.extend(answer)
        place = end
    return answered
