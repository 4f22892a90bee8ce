"""Reduced echelons of rows of integers.

A row is a dict from columns to factors other than 0; the columns are integers, the lesser one first.
An echelon is a dict from the first columns of its rows to them: the first factor of each is above 0,
its factors have no common divisor, and its first column is in no other row. In rest_of the columns
may be anything that can be a key.
"""

from math import gcd, lcm


def rest_of(row, echelon):
    """Returns (n, rest): what is left of n times a row without the first columns of an echelon, n the least."""
    hit = [column for column in row if column in echelon]
    many = 1
    for column in hit:
        many = lcm(many, echelon[column][column])
    rest = {column: many * factor for column, factor in row.items()}
    for column in hit:
        times = rest[column] // echelon[column][column]
        for other, factor in echelon[column].items():
            rest[other] = rest.get(other, 0) - times * factor
    common = many
    for factor in list(rest.values()):
        common = gcd(common, factor)
    return many // common, {column: factor // common for column, factor in rest.items() if factor}


def echelon_of(rows):
    """Returns the echelon, in the order of its first columns, of the sums of rational multiples of some rows."""
    found = {}
    for row in rows:
        rest = rest_of(row, found)[1]
        if rest:
            first = _first_column(rest)
            new = _divided(rest, first)
            found = {column: _without_column(old, column, first, new) for column, old in found.items()}
            found[first] = new
    return {column: found[column] for column in sorted(found, key=int)}


def rows_across(echelon, many):
    """Returns a list of rows, on the columns below many, that generate all rows across those of an echelon.

    Two rows are across if the sum of the products of their factors, column by column, is 0.
    """
    return [_row_across(echelon, column) for column in range(many) if column not in echelon]


def _row_across(echelon, column):
    """Returns the row across those of an echelon that has only one column besides first columns."""
    hit = [first for first, row in echelon.items() if column in row]
    many = 1
    for first in hit:
        many = lcm(many, echelon[first][first])
    across = {first: -echelon[first][column] * (many // echelon[first][first]) for first in hit}
    across[column] = many
    return across


def _first_column(row):
    """Returns the first column of a row that is not empty."""
    return min([int(column) for column in row])


def _without_column(row, first, column, new):
    """Returns a row of an echelon, and its first column, without the first column of a new one."""
    if column not in row:
        return row
    return _divided(rest_of(row, {column: new})[1], first)


def _divided(row, first):
    """Returns a row without a common divisor and with a first factor above 0."""
    common = 0
    for factor in list(row.values()):
        common = gcd(common, factor)
    if row[first] < 0:
        common = -common
    return {column: factor // common for column, factor in row.items()}
