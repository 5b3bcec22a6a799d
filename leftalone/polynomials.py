"""Monomials as tuples of powers, polynomials as dicts from monomials to numbers, and how tables move them."""


def monomials(n, d):
    """The monomials of degree d: more of the first unknown first, then more of the second."""
    begun = [()]
    for unknown in range(n - 1):
        longer = []
        for powers in begun:
            for power in range(d - sum(powers), -1, -1):
                longer.append(powers + (power,))
        begun = longer
    return [powers + (d - sum(powers),) for powers in begun]


def with_more(monomial, i, more):
    """The monomial with so many more of unknown number i."""
    return monomial[:i] + (monomial[i] + more,) + monomial[i + 1:]


def first_unknown(monomial):
    """The number of the first unknown that the monomial has; its degree is 1 or more."""
    i = 0
    while monomial[i] == 0:
        i += 1
    return i


def times_row(polynomial, row):
    """The polynomial times the sum of the unknowns, each as many times as the row says."""
    product = {}
    # Most tables are mostly 0, and monomials that come 0 times would be carried on through all degrees.
    some = [i for i in range(len(row)) if row[i] != 0]
    for monomial in polynomial:
        for i in some:
            raised = with_more(monomial, i, 1)
            product[raised] = product.get(raised, 0) + polynomial[monomial] * row[i]
    return product


def polynomial_of(order, row):
    """The polynomial that the row tells, a number for each monomial of the order."""
    polynomial = {}
    for j in range(len(order)):
        if row[j] != 0:
            polynomial[order[j]] = row[j]
    return polynomial


def product_of(a, b):
    """One polynomial times the other."""
    product = {}
    for one in a:
        for other in b:
            both = tuple([one[i] + other[i] for i in range(len(one))])
            product[both] = product.get(both, 0) + a[one] * b[other]
    return product


def moved_monomials(n, table, d):
    """For each monomial of degree d the polynomial that the table moves it to."""
    one = (0,) * n
    moved = {one: {one: 1}}
    for degree in range(1, d + 1):
        higher = {}
        for monomial in monomials(n, degree):
            i = first_unknown(monomial)
            lower = moved[with_more(monomial, i, -1)]
            higher[monomial] = times_row(lower, table[i * n:i * n + n])
        moved = higher
    return moved


def sums_of_moved(n, group, d):
    """For each monomial of degree d, in order, all that the group moves it to, added: a row of numbers."""
    order = monomials(n, d)
    sums = [[0] * len(order) for monomial in order]
    for table in group:
        moved = moved_monomials(n, table, d)
        for i in range(len(order)):
            image = moved[order[i]]
            sums[i] = [sums[i][j] + image.get(order[j], 0) for j in range(len(order))]
    return sums
