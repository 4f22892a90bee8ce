"""Triangles: all sums of integer multiples, modulo a number, of some rows, by one row for each place (point 24).

Row by row, there are 0s ahead of the row's own place, and its own number is a divisor of the modulus. The
modulus times each place is among the sums, so that all other numbers may be taken modulo it.
"""

from treelaws.remainders import common_divisor, sum_modulo


def triangle_of(rows, width, modulus):
    """Returns the triangle of some rows."""
    found = [[modulus if at == place else 0 for at in range(width)] for place in range(width)]
    for row in rows:
        rest = [factor % modulus for factor in row]
        for place in range(width):
            if rest[place]:
                own = found[place]
                common, many, times = common_divisor(own[place], rest[place])
                less = -(rest[place] // common)
                if common < own[place]:
                    found[place] = _with_own(sum_modulo(many, own, times, rest, modulus), place, common)
                rest = sum_modulo(own[place] // common, rest, less, own, modulus)
    return [row[:place + 1] + rest_by(found, row, place + 1, modulus)[place + 1:] for place, row in enumerate(found)]


def _with_own(row, place, own):
    """Returns a row with another number at a place."""
    return row[:place] + [own] + row[place + 1:]


def rest_by(triangle, row, start, modulus):
    """Returns what is left of a row, from a place on, if each row is taken away until the number at its own place
    is the least one from 0 on."""
    rest = row
    for place in range(start, len(row)):
        own = triangle[place]
        many = rest[place] // own[place]
        if many:
            left = rest[place] - many * own[place]
            rest = _with_own(sum_modulo(1, rest, -many, own, modulus), place, left)
    return rest
