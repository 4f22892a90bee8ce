"""Wrong values that no equation notices: bends of several stored numbers, and changes of one."""

from math import isqrt

from treelaws.echelon import echelon_of, rows_across
from treelaws.equations import equations, spaces_of
from treelaws.errors import Mismatch
from treelaws.integers import is_integer
from treelaws.needs import need_equations, need_kind, need_number, need_numbers
from treelaws.search import search
from treelaws.sheets import named_values


def bends_within(sheet, kind, names):
    """Returns the list of the basis of the unnoticed bends of a kind that change only some numbers."""
    need_kind(sheet, kind)
    need_numbers(sheet, kind, names)
    return _bends_within(sheet[1][kind], equations(sheet, 1)[kind], names)


def distance(sheet, kind):
    """Returns the least number of changed numbers of an unnoticed bend of a kind, or None."""
    need_kind(sheet, kind)
    numbers = sheet[1][kind]
    space = equations(sheet, 1)[kind]
    some = [()]
    for size in range(1, len(numbers) + 1):
        some = [names + (name,) for names in some for name in _behind(numbers, names)]
        if any([_bends_within(numbers, space, names) for names in some]):
            return size
    return None


def _behind(numbers, names):
    """Returns the numbers behind the last one of some of them."""
    return numbers[numbers.index(names[-1]) + 1:] if names else numbers


def _bends_within(numbers, space, names):
    """Returns what bends_within returns, where space is that of all equations of degree 1."""
    places = {name: place for place, name in enumerate(numbers)}
    # A bend is added to each side of an equation, so only the factors of names tell whether it is noticed.
    rows = [{places[product[0]]: factor for factor, product in form.terms if product} for form in space.basis]
    fixed = [{place: 1} for name, place in places.items() if name not in names]
    across = rows_across(echelon_of(rows + fixed), len(numbers))
    return [tuple([row.get(place, 0) for place in range(len(numbers))]) for row in echelon_of(across).values()]


def noticed_by(sheet, kind, degree, row):
    """Returns the first form of the basis of a kind's equations that is not 0 for stored values, or None."""
    need_equations(sheet, degree)
    need_kind(sheet, kind)
    names = sheet[1][kind]
    if not isinstance(row, tuple) or len(row) != len(names) or not all([is_integer(worth) for worth in row]):
        raise Mismatch("stored values are a tuple with one integer for each number")
    worths = {name: worth for name, worth in zip(names, row)}
    for form in _equations_of(sheet, kind, degree):
        if form(worths):
            return form
    return None


def blind_changes(sheet, kind, degree, tree, name):
    """Returns the ascending list of the integers by which a number of a tree can be changed without breaking
    an equation, or None if these are all integers."""
    need_equations(sheet, degree)
    need_kind(sheet, kind)
    need_number(sheet, kind, name)
    return _blind_changes(_equations_of(sheet, kind, degree), named_values(sheet, tree), name)


def sure_numbers(sheet, kind, degree, tree):
    """Returns the tuple of the numbers of a tree of which each change breaks an equation, in order."""
    need_equations(sheet, degree)
    need_kind(sheet, kind)
    basis = _equations_of(sheet, kind, degree)
    worths = named_values(sheet, tree)
    return tuple([name for name in sheet[1][kind] if _blind_changes(basis, worths, name) == []])


def _equations_of(sheet, kind, degree):
    """Returns the tuple of the basis forms of a kind's equations; raises TooMany(200)."""
    return spaces_of(sheet, degree, search(sheet, degree))[kind].basis


def _blind_changes(basis, worths, name):
    """Returns what blind_changes returns, by the forms of the basis and a tree's values."""
    changes = [_change_of(form, worths, name) for form in basis]
    # Powers beyond the third do not occur, and without a change each equation holds.
    changes = [row for row in changes if any(row)]
    if not changes:
        return None
    return [many for many in _near_roots(changes[0]) if all([_worth_at(row, many) == 0 for row in changes])]


def _change_of(form, worths, name):
    """Returns the factors of the first three powers of what is added to a number, in the value of a form."""
    change = [0, 0, 0]
    for factor, names in form.terms:
        # The term is worth * (own + x) ^ power.
        worth, power = factor, 0
        for other in names:
            if other == name:
                power += 1
            else:
                worth = worth * worths[other]
        for place, many in enumerate(_powers(worths[name], power)):
            change[place] = change[place] + worth * many
    return tuple(change)


def _powers(own, power):
    """Returns the factors of x, x ^ 2 and x ^ 3 in (own + x) ^ power, power at most 3."""
    known = ((), (1,), (2 * own, 1), (3 * own * own, 3 * own, 1))
    return known[power]


def _worth_at(row, many):
    """Returns the sum of the factors of a row times the powers of an integer."""
    return many * (row[0] + many * (row[1] + many * row[2]))


def _near_roots(row):
    """Returns an ascending list of integers other than 0, with all at which a row of factors, not all 0, is 0."""
    low, middle, high = row
    if high == 0:
        found = [-low // middle] if middle else []
    else:
        below = middle * middle - 4 * low * high
        root = isqrt(below) if below >= 0 else 0
        found = [(-middle - root) // (2 * high), (-middle + root) // (2 * high)]
    return sorted(set([many for many in found if many]))
