"""What is made of lower ones: sums of products, each so many times, of two that stay, of degrees 1 or more."""

from leftalone.counting import counts_that_stay
from leftalone.polynomials import monomials
from leftalone.polynomials import polynomial_of
from leftalone.polynomials import product_of
from leftalone.rows import fewest_rows
from leftalone.rows import is_made_of
from leftalone.staying import rows_that_stay


def polynomials_that_stay(n, group, d):
    """For degrees 0 to d: the fewest polynomials that make all that stay."""
    found = []
    for degree in range(d + 1):
        order = monomials(n, degree)
        found.append([polynomial_of(order, row) for row in rows_that_stay(n, group, degree)])
    return found


def rows_made_of_lower(n, lower_ones, d):
    """The fewest rows of degree d that make all that is made of the lower ones, which are told by degree."""
    order = monomials(n, d)
    rows = []
    # Half the degrees are enough, for the others only exchange the two factors.
    for degree in range(1, d // 2 + 1):
        for a in lower_ones[degree]:
            for b in lower_ones[d - degree]:
                product = product_of(a, b)
                rows.append([product.get(monomial, 0) for monomial in order])
    return fewest_rows(rows)


def counts_of_new(n, group, d):
    """For degrees 0 to d: how many new ones there are."""
    lower_ones = polynomials_that_stay(n, group, d - 1)
    counts = counts_that_stay(n, group, d)
    # What stays of degree 0 isn't made of lower ones, and yet none of it is new.
    new = [0]
    for degree in range(1, d + 1):
        new.append(counts[degree] - len(rows_made_of_lower(n, lower_ones, degree)))
    return new


def is_made_of_lower(n, group, d, polynomial):
    """Whether the polynomial of degree d is made of lower ones."""
    lower_ones = polynomials_that_stay(n, group, d - 1)
    return is_made_of(polynomial, rows_made_of_lower(n, lower_ones, d))
