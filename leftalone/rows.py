"""Rows of whole numbers, each standing for all its multiples, and fractions told by two numbers."""


def common_part(a, b):
    """The greatest number that divides both; 0 if both are 0."""
    a = abs(a)
    b = abs(b)
    while b != 0:
        rest = a % b
        a = b
        b = rest
    return a


def told_fraction(above, below):
    """The two numbers that tell above by below, which isn't 0."""
    common = common_part(above, below)
    if below < 0:
        common = -common
    return [above // common, below // common]


def shortened(row):
    """The row without what all its numbers have in common."""
    common = 0
    for number in row:
        common = common_part(common, number)
    if common == 0:
        return row
    return [number // common for number in row]


def cleared(row, by, place):
    """A multiple of the row, less so much of the row by that 0 stands at the place."""
    if row[place] == 0:
        return row
    # Shortened each time, for else the numbers double their length with each row taken away.
    return shortened([by[place] * row[j] - row[place] * by[j] for j in range(len(row))])


def place_of_one_with(rows, place):
    """The first place among the rows of one that isn't 0 at the place; None if there is none."""
    for k in range(len(rows)):
        if rows[k][place] != 0:
            return k
    return None


def fewest_rows(rows):
    """The fewest rows that make all the rows: their first numbers that aren't 0 stand at rising places,
    and there all other rows have 0."""
    kept = []
    left = list(rows)
    width = len(rows[0]) if rows else 0
    for place in range(width):
        k = place_of_one_with(left, place)
        if k is not None:
            by = left.pop(k)
            left = [cleared(row, by, place) for row in left]
            kept = [cleared(row, by, place) for row in kept]
            kept.append(by)
    return kept


def first_place(row):
    """The place of the row's first number that isn't 0."""
    place = 0
    while row[place] == 0:
        place += 1
    return place


def is_made_of(row, rows):
    """Whether the row is a sum of the rows, each so many times; they are such as fewest_rows gives."""
    for by in rows:
        row = cleared(row, by, first_place(by))
    return not any(row)


def told_row(row, below):
    """The row's numbers by below, which isn't 0, two numbers for each fraction."""
    told = []
    for number in row:
        told.extend(told_fraction(number, below))
    return told
