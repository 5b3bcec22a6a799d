"""What a group leaves as it is: the mean of a polynomial over the group, and the polynomials that stay."""

from leftalone.polynomials import sums_of_moved
from leftalone.rows import fewest_rows


def sum_of_moved(n, group, d, polynomial):
    """All that the group moves the polynomial of degree d to, added: a row of numbers."""
    total = [0] * len(polynomial)
    sums = sums_of_moved(n, group, d)
    for i in range(len(polynomial)):
        total = [total[j] + polynomial[i] * sums[i][j] for j in range(len(total))]
    return total


def is_left_alone(n, group, d, polynomial):
    """Whether all tables of the group move the polynomial of degree d to itself."""
    # The mean always stays, and what stays is its own mean: so just those that stay are.
    return sum_of_moved(n, group, d, polynomial) == [number * len(group) for number in polynomial]


def rows_that_stay(n, group, d):
    """The fewest rows of numbers of degree d that make all that stay, each standing for all its multiples."""
    # What stays is its own mean, so the means of the monomials make all that stay.
    return fewest_rows(sums_of_moved(n, group, d))
