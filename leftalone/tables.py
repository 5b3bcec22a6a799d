"""Tables of n rows of n whole numbers, each a tuple told row by row, and the group that they make."""

MOST_TABLES = 48


def nothing_done(n):
    """The table that moves nothing."""
    return tuple([1 if place // n == place % n else 0 for place in range(n * n)])


def made(n, a, b):
    """The table that a and behind it b make."""
    numbers = []
    for i in range(n):
        for j in range(n):
            numbers.append(sum([b[i * n + k] * a[k * n + j] for k in range(n)]))
    return tuple(numbers)


def group_of(n, told):
    """All that the told tables make, in order; None if they are more than a group may have."""
    found = [nothing_done(n)]
    known = {found[0]: True}
    place = 0
    while place < len(found):
        for table in told:
            another = made(n, found[place], table)
            if another not in known:
                known[another] = True
                found.append(another)
        # Checked as it grows, since some tables never come to an end of making others.
        if len(found) > MOST_TABLES:
            return None
        place += 1
    return sorted(found)


def can_be_undone(n, table, group):
    """Whether a table of the group can be undone.

    If it can at all, the group has what undoes it: being finite, it has two equal powers of the table,
    and what lies between them is nothing done.
    """
    nothing = nothing_done(n)
    return any([made(n, table, other) == nothing for other in group])
