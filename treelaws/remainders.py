"""Rows of integers modulo a number from 2 on, and the forms that are 0 at them modulo it."""

from treelaws.spans import packed, row_value, unit_rows


def across_modulo(rows, width, modulus):
    """Returns a list of rows of factors that generate, modulo a number, all forms that are 0 at some rows."""
    forms = unit_rows(width)
    for row in rows:
        forms = forms_behind_modulo(forms, row, modulus)
    return forms


def forms_behind_modulo(forms, row, modulus):
    """Returns forms that generate those sums of multiples of some forms that are 0 at a row, all modulo a number."""
    behind = []
    last, against = None, 0
    for form in forms:
        worth = row_value(form, row) % modulus
        if not worth:
            behind.append(form)
        elif last is None:
            last, against = form, worth
        else:
            # The two are exchanged for two with the same sums: one that is 0 at the row, and one with the
            # greatest common divisor of their values.
            common, one, other = common_divisor(against, worth)
            behind.append(sum_modulo(worth // common, last, -(against // common), form, modulus))
            last, against = sum_modulo(one, last, other, form, modulus), common
    if last is not None:
        times = modulus // common_divisor(against, modulus)[0]
        behind.append([times * factor % modulus for factor in last])
    return [form for form in behind if any(form)]


def sum_modulo(many, row, times, other, modulus):
    """Returns the sum of multiples of two rows, modulo a number."""
    return [(many * one + times * two) % modulus for one, two in zip(row, other)]


def common_divisor(one, other):
    """Returns (d, n, m): the greatest common divisor d of two integers above 0, d = n * one + m * other."""
    left, right = (one, 1, 0), (other, 0, 1)
    while right[0]:
        times = left[0] // right[0]
        left, right = right, tuple([a - times * b for a, b in zip(left, right)])
    return left


class ModSpan:
    """All sums of integer multiples, modulo a number, of the rows that were taken."""

    def __init__(self, width, modulus):
        self._modulus = modulus
        # A row is in the span if and only if all forms that are 0 at the span are 0 at it, all modulo the number.
        self._forms = unit_rows(width)
        # Neither a factor nor a residue reaches the modulus, so that the forms can be tried as one.
        self._bits = (width * modulus * modulus).bit_length()
        self._joined = None

    def is_full(self):
        """Returns whether each row is in the span."""
        return not self._forms

    def lacks(self, row):
        """Returns whether a row is not in the span."""
        if self._joined is None:
            self._joined = packed(self._forms, self._bits)
        worths = row_value(self._joined, [worth % self._modulus for worth in row])
        ones = (1 << self._bits) - 1
        while worths:
            if (worths & ones) % self._modulus:
                return True
            worths = worths >> self._bits
        return False

    def takes(self, row):
        """Takes a row if the span lacks it; returns whether it does."""
        if not self.lacks(row):
            return False
        self._forms = forms_behind_modulo(self._forms, row, self._modulus)
        self._joined = None
        return True

    def null_forms(self):
        """Returns a list of rows of factors that generate all forms that are 0 at the span."""
        return list(self._forms)
