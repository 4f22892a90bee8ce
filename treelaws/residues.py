"""Numbers modulo one prime: quick answers that are shown to be right, or not believed."""

PRIME = 3141592653589793238462643383279502884197169399375105820974944592307816406286208998628034825342117137
_WEIGHT = 271828182845904523536028747135266249775724709369995957496696839
# Numerators and denominators of at most so many bits make different residues.
_BITS = 164


def weights(width):
    """Returns a row of residues without any plain rule, so that a sum weighted by them is seldom 0 by chance."""
    found = []
    weight = 1
    for _ in range(width):
        weight = weight * _WEIGHT % PRIME
        found.append(weight)
    return found


def less_residues(form, times, last):
    """Returns a form less so many times another one."""
    many = times % PRIME
    return [(factor - many * other) % PRIME for factor, other in zip(form, last)]


def inverse_of(number):
    """Returns the residue that makes 1 with another one, not 0."""
    one, other = PRIME, number % PRIME
    before, now = 0, 1
    while other:
        times = one // other
        one, other = other, one - times * other
        before, now = now, before - times * now
    return before % PRIME


def fractions_of(form):
    """Returns integers with the ratios of some residues, small ones if there are any."""
    times = 1
    for residue in form:
        many = _nearest(residue * times)
        if many.bit_length() > _BITS:
            times = times * _denominator_of(many)
    return [_nearest(residue * times) for residue in form]


def _nearest(number):
    """Returns the integer nearest to 0 with the same residue."""
    residue = number % PRIME
    return residue if 2 * residue < PRIME else residue - PRIME


def _denominator_of(number):
    """Returns the denominator of a fraction of small numbers with the residue of a number."""
    one, other = PRIME, number % PRIME
    before, now = 0, 1
    while other.bit_length() > _BITS:
        times = one // other
        one, other = other, one - times * other
        before, now = now, before - times * now
    return abs(now)
