"""How many independent polynomials of each degree stay, counted by traces without making any."""

from leftalone.tables import made
from leftalone.tables import nothing_done


def traces_of_powers(n, table, d):
    """The traces of the table done once, twice and so on to d times."""
    traces = []
    power = nothing_done(n)
    while len(traces) < d:
        power = made(n, power, table)
        traces.append(sum([power[i * n + i] for i in range(n)]))
    return traces


def traces_by_degree(n, table, d):
    """For degrees 0 to d: the trace of how the table moves the monomials of the degree."""
    powers = traces_of_powers(n, table, d)
    traces = [1]
    for degree in range(1, d + 1):
        # Newton's identity between complete symmetric sums and power sums; it divides without a rest.
        total = sum([powers[k - 1] * traces[degree - k] for k in range(1, degree + 1)])
        traces.append(total // degree)
    return traces


def counts_that_stay(n, group, d):
    """For degrees 0 to d: how many polynomials make all that stay, as few as can be."""
    totals = [0] * (d + 1)
    for table in group:
        traces = traces_by_degree(n, table, d)
        totals = [totals[degree] + traces[degree] for degree in range(d + 1)]
    # The mean over the group sends all polynomials to those that stay, so its trace is their count.
    return [total // len(group) for total in totals]
