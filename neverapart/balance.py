"""Vectors of whole numbers: numbers by which all of them fall, or times in which they make nothing together.

There are always either the ones or the others. Both come of one search: among all shares of the vectors, none below
0 and 1 in all, for those whose sum is nearest to nothing. It is done in whole numbers alone: each row of the table
stands for its numbers divided by the scale.
"""

from math import gcd


def balance(vectors, many):
    """A tuple of times, one for each vector, and of numbers, one for each of its many places; one of them is None."""
    rows = _table(vectors, many)
    basis = list(range(len(vectors), len(vectors) + many + 1))
    scale = 1
    while True:
        column = _first_above(rows[-1][:len(vectors)])
        if column is None:
            break
        place = _row_to_turn(rows[:-1], column, basis)
        rows, scale = _turned(rows, place, column, scale), rows[place][column]
        basis[place] = column
    if rows[-1][-1] > 0:
        return None, _lessened([rows[-1][len(vectors) + place] + scale for place in range(many)])
    shares = {column: row[-1] for column, row in zip(basis, rows[:-1])}
    return _lessened([shares.get(column, 0) for column in range(len(vectors))]), None


def _table(vectors, many):
    """A row for each place of the vectors, one for their shares in all, and the sum of these rows."""
    ends = [0] * many + [1]
    columns = [list(vector) + [1] for vector in vectors]
    rows = []
    for place, end in enumerate(ends):
        own = [1 if other == place else 0 for other in range(many + 1)]
        rows.append([column[place] for column in columns] + own + [end])
    return rows + [[sum(column) for column in columns] + [0] * (many + 1) + [1]]


def _first_above(numbers):
    """The place of the first number above 0, or None; who always takes the first one never comes round in a ring."""
    above = [place for place, number in enumerate(numbers) if number > 0]
    return above[0] if above else None


def _row_to_turn(rows, column, basis):
    """The place of the row that bounds a column first; of several the one with the first basis."""
    best = None
    for place, row in enumerate(rows):
        if row[column] > 0 and (best is None or _is_ahead(row, rows[best], column, basis[place] < basis[best])):
            best = place
    return best


def _is_ahead(row, other, column, first):
    one, two = row[-1] * other[column], other[-1] * row[column]
    return one < two or (one == two and first)


def _turned(rows, place, column, scale):
    """The rows with nothing in a column but in one place, as they stand for a new scale."""
    lead = rows[place]
    pivot = lead[column]
    found = []
    for at, row in enumerate(rows):
        part = row[column]
        new = [(number * pivot - part * other) // scale for number, other in zip(row, lead)]
        found.append(lead if at == place else new)
    return found


def _lessened(numbers):
    """Numbers without what divides all of them."""
    common = 0
    for number in numbers:
        common = gcd(common, number)
    return [number // common for number in numbers] if common > 1 else numbers
