"""Another way to the same answers: what stays is found as what each told table moves to itself.

Polynomials are multiplied by their values at as many points as there are monomials, which tell them apart.
"""

from fractions import Fraction
from functools import lru_cache
from itertools import product
from math import prod

LIMITS = {2: 8, 3: 5}


def rows_of(n, table):
    return [list(table[i * n:i * n + n]) for i in range(n)]


def times(a, b):
    return tuple(sum(x * y for x, y in zip(row, column)) for row in a for column in zip(*b))


def monoid(n, told, most):
    """All products, or None where they are more than most."""
    found = {tuple(int(i == j) for i in range(n) for j in range(n))}
    while True:
        more = {times(rows_of(n, a), rows_of(n, b)) for a in found for b in told} - found
        if not more:
            return found
        found |= more
        if len(found) > most:
            return None


def determinant(n, table):
    if n == 2:
        return table[0] * table[3] - table[1] * table[2]
    a, b, c, d, e, f, g, h, i = table
    return a * (e * i - f * h) - b * (d * i - f * g) + c * (d * h - e * g)


def monomials(n, d):
    powers = [p for p in product(range(d + 1), repeat=n) if sum(p) == d]
    return sorted(powers, reverse=True)


@lru_cache(maxsize=None)
def moved(n, table, monomial):
    """Every way to take one unknown out of each factor's row, added up."""
    rows = rows_of(n, table)
    factors = [i for i in range(n) for _ in range(monomial[i])]
    found = {}
    for taken in product(range(n), repeat=len(factors)):
        number = 1
        for i, j in zip(factors, taken):
            number *= rows[i][j]
        powers = tuple(taken.count(j) for j in range(n))
        found[powers] = found.get(powers, 0) + number
    return found


def echelon(rows):
    rows = [[Fraction(x) for x in row] for row in rows]
    kept = []
    for column in range(len(rows[0]) if rows else 0):
        at = next((row for row in rows if row[column]), None)
        if at is None:
            continue
        rows.remove(at)
        at = [x / at[column] for x in at]
        rows = [[x - row[column] * y for x, y in zip(row, at)] for row in rows]
        kept = [[x - row[column] * y for x, y in zip(row, at)] for row in kept]
        kept.append(at)
    return kept


def kernel(rows, width):
    """What all rows send to 0."""
    steps = echelon(rows)
    leads = [next(j for j, x in enumerate(row) if x) for row in steps]
    found = []
    for free in range(width):
        if free not in leads:
            vector = [Fraction(0)] * width
            vector[free] = Fraction(1)
            for lead, row in zip(leads, steps):
                vector[lead] = -row[free]
            found.append(vector)
    return found


def moved_row(n, table, d, polynomial):
    images = [(number, moved(n, table, m)) for number, m in zip(polynomial, monomials(n, d)) if number]
    return [sum(number * image.get(m, 0) for number, image in images) for m in monomials(n, d)]


@lru_cache(maxsize=None)
def those_that_stay(n, told, d):
    order = monomials(n, d)
    equations = []
    for table in told:
        images = [moved(n, table, m) for m in order]
        for m in order:
            equations.append([image.get(m, 0) - (m == of) for image, of in zip(images, order)])
    return echelon(kernel(equations, len(order)))


def values(n, d, polynomial, points):
    """The polynomial's values. With the monomials' own powers as points, they tell it apart from all others."""
    order = monomials(n, d)
    return [sum(number * prod(x ** power for x, power in zip(point, m)) for number, m in zip(polynomial, order))
            for point in points]


@lru_cache(maxsize=None)
def values_made_of_lower(n, told, d):
    points = monomials(n, d)
    found = []
    for a in range(1, d):
        firsts = [values(n, a, row, points) for row in those_that_stay(n, told, a)]
        seconds = [values(n, d - a, row, points) for row in those_that_stay(n, told, d - a)]
        # Kept few on the way, for else there are many rows at the end.
        found = echelon(found + [[x * y for x, y in zip(one, other)] for one in firsts for other in seconds])
    return found


class Line:
    """The line's calls as the document tells them."""

    def __init__(self):
        self.n = 2
        self.told = []

    def answer(self, call):
        return getattr(self, call[0])(*call[1:])

    def begin(self, n):
        if n not in (2, 3):
            return [-1]
        self.n = n
        self.told = []
        return [n]

    def table(self, numbers):
        if len(numbers) != self.n ** 2 or not all(-2 <= x <= 2 for x in numbers):
            return [-1]
        found = monoid(self.n, self.told + [tuple(numbers)], 48)
        if found is None:
            return [-2]
        if determinant(self.n, numbers) == 0:
            return [-6]
        self.told.append(tuple(numbers))
        return [len(found)]

    def group(self):
        found = sorted(monoid(self.n, self.told, 48))
        return [len(found)] + [x for table in found for x in table]

    def counts(self, d):
        if not 0 <= d <= LIMITS[self.n]:
            return [-1]
        return [len(those_that_stay(self.n, tuple(self.told), k)) for k in range(d + 1)]

    def stay(self, d):
        if not 0 <= d <= LIMITS[self.n]:
            return [-1]
        rows = those_that_stay(self.n, tuple(self.told), d)
        return [len(rows)] + [y for row in rows for x in row for y in (x.numerator, x.denominator)]

    def is_wrong(self, d, polynomial):
        return (not 0 <= d <= LIMITS[self.n] or len(polynomial) != len(monomials(self.n, d))
                or not all(-1000 <= x <= 1000 for x in polynomial))

    def mean(self, d, polynomial):
        if self.is_wrong(d, polynomial):
            return [-1]
        found = monoid(self.n, self.told, 48)
        images = [moved_row(self.n, table, d, polynomial) for table in found]
        means = [Fraction(sum(column), len(found)) for column in zip(*images)]
        return [y for x in means for y in (x.numerator, x.denominator)]

    def stays(self, d, polynomial):
        if self.is_wrong(d, polynomial):
            return [-1]
        return [int(all(moved_row(self.n, table, d, polynomial) == list(polynomial) for table in self.told))]

    def fresh(self, d):
        if not 0 <= d <= LIMITS[self.n]:
            return [-1]
        told = tuple(self.told)
        return [0] + [len(those_that_stay(self.n, told, k)) - len(values_made_of_lower(self.n, told, k))
                      for k in range(1, d + 1)]

    def makes(self, d, polynomial):
        if self.is_wrong(d, polynomial):
            return [-1]
        if self.stays(d, polynomial) == [0]:
            return [-4]
        made = values_made_of_lower(self.n, tuple(self.told), d)
        also = values(self.n, d, polynomial, monomials(self.n, d))
        return [int(len(echelon(made + [also])) == len(made))]
