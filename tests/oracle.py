"""Another way to the same answers: what stays is found as what each told table moves to itself."""

from fractions import Fraction
from itertools import product

LIMITS = {2: 8, 3: 5}


def rows_of(n, table):
    return [list(table[i * n:i * n + n]) for i in range(n)]


def times(a, b):
    return tuple(sum(x * y for x, y in zip(row, column)) for row in a for column in zip(*b))


def monoid(n, told, most):
    """All products, or None where they are more than most."""
    found = {tuple(int(i == j) for i in range(n) for j in range(n))}
    while True:
        more = {times(rows_of(n, a), rows_of(n, b)) for a in found for b in told} - found
        if not more:
            return found
        found |= more
        if len(found) > most:
            return None


def determinant(n, table):
    if n == 2:
        return table[0] * table[3] - table[1] * table[2]
    a, b, c, d, e, f, g, h, i = table
    return a * (e * i - f * h) - b * (d * i - f * g) + c * (d * h - e * g)


def monomials(n, d):
    powers = [p for p in product(range(d + 1), repeat=n) if sum(p) == d]
    return sorted(powers, reverse=True)


def moved(n, table, monomial):
    """Every way to take one unknown out of each factor's row, added up."""
    rows = rows_of(n, table)
    factors = [i for i in range(n) for _ in range(monomial[i])]
    found = {}
    for taken in product(range(n), repeat=len(factors)):
        number = 1
        for i, j in zip(factors, taken):
            number *= rows[i][j]
        powers = tuple(taken.count(j) for j in range(n))
        found[powers] = found.get(powers, 0) + number
    return found


def echelon(rows):
    rows = [[Fraction(x) for x in row] for row in rows]
    kept = []
    for column in range(len(rows[0]) if rows else 0):
        at = next((row for row in rows if row[column]), None)
        if at is None:
            continue
        rows.remove(at)
        at = [x / at[column] for x in at]
        rows = [[x - row[column] * y for x, y in zip(row, at)] for row in rows]
        kept = [[x - row[column] * y for x, y in zip(row, at)] for row in kept]
        kept.append(at)
    return kept


def kernel(rows, width):
    """What all rows send to 0."""
    steps = echelon(rows)
    leads = [next(j for j, x in enumerate(row) if x) for row in steps]
    found = []
    for free in range(width):
        if free not in leads:
            vector = [Fraction(0)] * width
            vector[free] = Fraction(1)
            for lead, row in zip(leads, steps):
                vector[lead] = -row[free]
            found.append(vector)
    return found


def those_that_stay(n, told, d):
    order = monomials(n, d)
    equations = []
    for table in told:
        images = [moved(n, table, m) for m in order]
        for m in order:
            equations.append([image.get(m, 0) - (m == of) for image, of in zip(images, order)])
    return echelon(kernel(equations, len(order)))


class Line:
    """The line's calls as the document tells them."""

    def __init__(self):
        self.n = 2
        self.told = []

    def answer(self, call):
        return getattr(self, call[0])(*call[1:])

    def begin(self, n):
        if n not in (2, 3):
            return [-1]
        self.n = n
        self.told = []
        return [n]

    def table(self, numbers):
        if len(numbers) != self.n ** 2 or not all(-2 <= x <= 2 for x in numbers):
            return [-1]
        found = monoid(self.n, self.told + [tuple(numbers)], 48)
        if found is None:
            return [-2]
        if determinant(self.n, numbers) == 0:
            return [-6]
        self.told.append(tuple(numbers))
        return [len(found)]

    def group(self):
        found = sorted(monoid(self.n, self.told, 48))
        return [len(found)] + [x for table in found for x in table]

    def counts(self, d):
        if not 0 <= d <= LIMITS[self.n]:
            return [-1]
        return [len(those_that_stay(self.n, self.told, k)) for k in range(d + 1)]

    def stay(self, d):
        if not 0 <= d <= LIMITS[self.n]:
            return [-1]
        rows = those_that_stay(self.n, self.told, d)
        return [len(rows)] + [y for row in rows for x in row for y in (x.numerator, x.denominator)]
