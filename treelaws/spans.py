"""Spans of rows of integers: which rows are no sums of rational multiples of the rows ahead."""

from math import gcd

from treelaws.residues import PRIME, fractions_of, inverse_of, less_residues, weights

_ROOM = 64
_FEW = 4


def row_value(form, row):
    """Returns the sum of the products of two rows of integers, place by place."""
    return sum([factor * worth for factor, worth in zip(form, row)])


def packed(forms, bits):
    """Returns one row for several: at each place the sum of their factors, so many bits apart."""
    rows = forms[::-1]
    if not rows:
        return []
    joined = rows[0]
    for row in rows[1:]:
        joined = [(above << bits) + factor for above, factor in zip(joined, row)]
    return joined


def weight_of(forms):
    """Returns how many bits the greatest sum of the factors, without signs, of one of some forms has."""
    return max([int(sum([abs(factor) for factor in form]).bit_length()) for form in forms], default=0)


class Sieve:
    """Some forms, given as rows of factors, that are tried at one row of values after another."""

    def __init__(self, forms):
        self._forms = forms
        self._weight = weight_of(forms)
        self._pack(_ROOM)

    def _pack(self, room):
        self._room = room
        self._joined = packed(self._forms, self._weight + room + 1)

    def all_zero(self, row):
        """Returns whether all of the forms are 0 at a row of values."""
        # No value of a form has more bits than weight and room, so that in the joined row, too, all must be 0.
        needed = sum([abs(worth) for worth in row]).bit_length()
        if needed > self._room:
            self._pack(2 * needed)
        return row_value(self._joined, row) == 0


class Span:
    """All sums of rational multiples of the rows that were taken."""

    def __init__(self, width):
        self.width = width
        self.rows = []
        self._forms = unit_rows(width)
        self._done = 0
        self._sieve = None
        self._residues = unit_rows(width)
        self._sample = weights(width)

    def is_full(self):
        """Returns whether each row is in the span."""
        return len(self.rows) == self.width

    def lacks(self, row):
        """Returns whether a row is not in the span."""
        # A form that is 0 at the span, but not at the row, modulo a prime shows that the row is new. Otherwise
        # it need not be old, and all forms that are 0 at the span must be asked.
        if self.is_full():
            return False
        if row_value(self._sample, row) % PRIME:
            return True
        self._catch_up()
        if self._sieve is None:
            self._sieve = Sieve(self._forms)
        return not self._sieve.all_zero(row)

    def takes(self, row):
        """Takes a row if the span lacks it; returns whether it does."""
        if not self.lacks(row):
            return False
        self.rows.append(row)
        self._take_residues(row)
        return True

    def null_forms(self):
        """Returns the list of rows of factors that is the reduced echelon of the forms that are 0 at the span."""
        self._catch_up()
        return list(self._forms)

    def steps(self):
        """Returns for each row that was taken a form that is 0 at those ahead of it, but not at it."""
        steps = []
        forms = unit_rows(self.width)
        for row in self.rows:
            worths = [row_value(form, row) for form in forms]
            steps.append(forms[_last_place(worths)])
            forms = _forms_behind(forms, worths)
        return steps

    def _catch_up(self):
        # The exact forms are dear, so they are worked out only when they are asked for.
        if len(self.rows) - self._done > _FEW:
            self._guess()
        while self._done < len(self.rows):
            row = self.rows[self._done]
            self._forms = _forms_behind(self._forms, [row_value(form, row) for form in self._forms])
            self._done = self._done + 1
            self._sieve = None

    def _guess(self):
        # There are as many residues as forms: if all of them come from forms with small factors, and these
        # are 0 at the rows, they are the forms, and the long way to them is spared.
        forms = [without_divisor(fractions_of(form)) for form in self._residues]
        sieve = Sieve(forms)
        if len(forms) == self.width - len(self.rows) and all([sieve.all_zero(row) for row in self.rows]):
            self._forms = forms
            self._done = len(self.rows)
            self._sieve = sieve

    def _take_residues(self, row):
        worths = [row_value(form, row) % PRIME for form in self._residues]
        at = _last_place(worths)
        if at is None:
            # The rows so far are independent, but not so modulo the prime: it can tell nothing more.
            self._residues = []
            self._sample = []
            return
        last = self._residues[at]
        inverse = inverse_of(worths[at])
        self._sample = less_residues(self._sample, row_value(self._sample, row) * inverse, last)
        self._residues = [less_residues(form, worth * inverse, last)
                          for place, (form, worth) in enumerate(zip(self._residues, worths)) if place != at]


def unit_rows(width):
    """Returns the list of the rows with one 1 and 0 elsewhere."""
    return [[1 if at == place else 0 for at in range(width)] for place in range(width)]


def _last_place(worths):
    """Returns the last place of some numbers at which there is not 0, or None."""
    for place in reversed(range(len(worths))):
        if worths[place]:
            return place
    return None


def _forms_behind(forms, worths):
    """Returns the reduced echelon of the sums of some forms that are 0 at a row where these have some values."""
    at = _last_place(worths)
    return [_cleared(form, worth, forms[at], worths[at])
            for place, (form, worth) in enumerate(zip(forms, worths)) if place != at]


def _cleared(form, worth, last, against):
    """Returns the form without common divisor that is 0 where two forms have the values worth and against."""
    if not worth:
        return form
    common = gcd(worth, against)
    # The first factor of a form is above 0 and stays so.
    sign = 1 if against > 0 else -1
    times = sign * (against // common)
    less = sign * (worth // common)
    return without_divisor([times * factor - less * other for factor, other in zip(form, last)])


def without_divisor(row):
    """Returns a row of integers, not all 0, divided by their greatest common divisor."""
    common = 0
    for factor in row:
        common = gcd(common, factor)
        if common == 1:
            return row
    return [factor // common for factor in row]
