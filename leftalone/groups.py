"""The calls about one group of tables: answers(calls) reads them from a flat list and answers them."""

from leftalone.counting import counts_that_stay
from leftalone.polynomials import monomials
from leftalone.products import counts_of_new
from leftalone.products import is_made_of_lower
from leftalone.rows import first_place
from leftalone.rows import told_row
from leftalone.staying import is_left_alone
from leftalone.staying import rows_that_stay
from leftalone.staying import sum_of_moved
from leftalone.tables import can_be_undone
from leftalone.tables import group_of
from leftalone.tables import nothing_done

NOT_ALLOWED = -1
TOO_MANY_TABLES = -2
DOES_NOT_STAY = -4
NOT_UNDONE = -6

UNKNOWNS_AT_FIRST = 2
GREATEST_DEGREES = {2: 8, 3: 5}
GREATEST_IN_TABLE = 2
GREATEST_IN_POLYNOMIAL = 1000

BEGIN = 0
TABLE = 1
GROUP = 2
COUNTS = 3
STAY = 4
MEAN = 5
STAYS = 6
FRESH = 7

# For each call by its number: how many whole numbers it has, and whether a row with its length follows.
WHOLE_NUMBERS = (1, 0, 0, 1, 1, 1, 1, 1, 1)
HAS_ROW = (False, True, False, False, False, True, True, False, True)


class Line:
    """What the calls are about: how many unknowns there are, the tables told and all that they make."""

    def __init__(self):
        self.unknowns = UNKNOWNS_AT_FIRST
        self.told = []
        self.tables = [nothing_done(UNKNOWNS_AT_FIRST)]

    def begin(self, n):
        if n not in GREATEST_DEGREES:
            return [NOT_ALLOWED]
        self.unknowns = n
        self.told = []
        self.tables = [nothing_done(n)]
        return [n]

    def table(self, numbers):
        if not is_table(self.unknowns, numbers):
            return [NOT_ALLOWED]
        told = self.told + [tuple(numbers)]
        tables = group_of(self.unknowns, told)
        if tables is None:
            return [TOO_MANY_TABLES]
        if not can_be_undone(self.unknowns, tuple(numbers), tables):
            return [NOT_UNDONE]
        self.told = told
        self.tables = tables
        return [len(tables)]

    def group(self):
        answer = [len(self.tables)]
        for table in self.tables:
            answer.extend(table)
        return answer

    def counts(self, d):
        if not self.allows_degree(d):
            return [NOT_ALLOWED]
        return counts_that_stay(self.unknowns, self.tables, d)

    def stay(self, d):
        if not self.allows_degree(d):
            return [NOT_ALLOWED]
        rows = rows_that_stay(self.unknowns, self.tables, d)
        answer = [len(rows)]
        for row in rows:
            # By its own first number, for there a 1 is told.
            answer.extend(told_row(row, row[first_place(row)]))
        return answer

    def mean(self, d, polynomial):
        if not self.allows_polynomial(d, polynomial):
            return [NOT_ALLOWED]
        return told_row(sum_of_moved(self.unknowns, self.tables, d, polynomial), len(self.tables))

    def stays(self, d, polynomial):
        if not self.allows_polynomial(d, polynomial):
            return [NOT_ALLOWED]
        return [int(is_left_alone(self.unknowns, self.tables, d, polynomial))]

    def fresh(self, d):
        if not self.allows_degree(d):
            return [NOT_ALLOWED]
        return counts_of_new(self.unknowns, self.tables, d)

    def makes(self, d, polynomial):
        if not self.allows_polynomial(d, polynomial):
            return [NOT_ALLOWED]
        if not is_left_alone(self.unknowns, self.tables, d, polynomial):
            return [DOES_NOT_STAY]
        return [int(is_made_of_lower(self.unknowns, self.tables, d, polynomial))]

    def allows_degree(self, d):
        return 0 <= d <= GREATEST_DEGREES[self.unknowns]

    def allows_polynomial(self, d, polynomial):
        return self.allows_degree(d) and is_polynomial(self.unknowns, d, polynomial)


def is_table(n, numbers):
    """Whether these are the numbers of a table that may be told."""
    return len(numbers) == n * n and all([abs(number) <= GREATEST_IN_TABLE for number in numbers])


def is_polynomial(n, d, numbers):
    """Whether these are the numbers of a polynomial of degree d that may be asked about."""
    return len(numbers) == len(monomials(n, d)) and all([abs(number) <= GREATEST_IN_POLYNOMIAL for number in numbers])


def end_of_call(calls, place):
    """The place behind the call that begins at the place."""
    end = place + 1 + WHOLE_NUMBERS[calls[place]]
    if HAS_ROW[calls[place]]:
        end += 1 + calls[end]
    return end


def answer_of(line, call):
    """What the line answers to one call, of its number and all that follows it."""
    if call[0] == BEGIN:
        return line.begin(call[1])
    if call[0] == TABLE:
        return line.table(call[2:])
    if call[0] == GROUP:
        return line.group()
    if call[0] == COUNTS:
        return line.counts(call[1])
    if call[0] == STAY:
        return line.stay(call[1])
    if call[0] == MEAN:
        return line.mean(call[1], call[3:])
    if call[0] == STAYS:
        return line.stays(call[1], call[3:])
    if call[0] == FRESH:
        return line.fresh(call[1])
    # Only makes, number 8, is left.
    return line.makes(call[1], call[3:])


def answers(calls):
    """For each call in the flat list, in order: how many numbers are answered, and these."""
    line = Line()
    answered = []
    place = 0
    while place < len(calls):
        end = end_of_call(calls, place)
        answer = answer_of(line, calls[place:end])
        answered.append(len(answer))
        answered.extend(answer)
        place = end
    return answered
