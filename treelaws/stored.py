"""Which numbers need not be stored, and which sets of them are the cheapest."""

from treelaws.equations import equations
from treelaws.errors import Mismatch, NoPrice
from treelaws.forms import canonical_form
from treelaws.integers import is_integer
from treelaws.needs import need_kind, need_numbers
from treelaws.told import equation_by

_MOST_PRICE = 1000000


def is_enough(sheet, kind, names):
    """Returns whether a tuple of numbers of a kind tells all others."""
    need_kind(sheet, kind)
    need_numbers(sheet, kind, names)
    return _tell_all(equations(sheet, 1)[kind], names)


def cheapest_sets(sheet, kind, prices):
    """Returns the list of the cheapest sets of a kind, in order."""
    _need_prices(sheet, kind, prices)
    return _cheapest_sets(sheet[1][kind], equations(sheet, 1)[kind], prices)


def stored(sheet, kind, prices):
    """Returns (price, names, equations) of the first cheapest set."""
    _need_prices(sheet, kind, prices)
    space = equations(sheet, 1)[kind]
    names = _cheapest_sets(sheet[1][kind], space, prices)[0]
    return _price_of(names, prices), names, _equations_by(sheet[1][kind], space, names)


def shows_stored(sheet, kind, prices, thing):
    """Returns whether any object is what stored returns, for any cheapest set and multiples of the equations."""
    _need_prices(sheet, kind, prices)
    space = equations(sheet, 1)[kind]
    numbers = sheet[1][kind]
    if not isinstance(thing, tuple) or len(thing) != 3:
        return False
    price, names, told = thing
    if not isinstance(names, tuple) or names not in _cheapest_sets(numbers, space, prices):
        return False
    if not is_integer(price) or price != _price_of(names, prices):
        return False
    right = _equations_by(numbers, space, names)
    if not isinstance(told, tuple) or len(told) != len(right):
        return False
    return all([_is_multiple(numbers, one, other) for one, other in zip(told, right)])


def exchanges(sheet, kind, prices, one, other):
    """Returns the list of the sets of a path of cheapest sets from one to another; raises Mismatch."""
    _need_prices(sheet, kind, prices)
    found = _cheapest_sets(sheet[1][kind], equations(sheet, 1)[kind], prices)
    for thing in (one, other):
        if not isinstance(thing, tuple) or thing not in found:
            raise Mismatch("what is passed is no cheapest set")
    path = [one]
    while path[-1] != other:
        path.append([names for names in found if _is_nearer(path[-1], names, other)][0])
    return path


def _need_prices(sheet, kind, prices):
    """Raises NoKind, then NoPrice unless any object is a prices dict of the kind."""
    need_kind(sheet, kind)
    if not isinstance(prices, dict) or list(prices) != list(sheet[1][kind]):
        raise NoPrice("prices are a dict from the kind's numbers, in order")
    if not all([is_integer(price) and 0 <= price <= _MOST_PRICE for price in prices.values()]):
        raise NoPrice("a price is an integer from 0 to 10 ^ 6")


def _cheapest_sets(numbers, space, prices):
    """Returns the list of the cheapest sets of some numbers, in order, by the space of the equations of degree 1."""
    size = _size_of_least(numbers, space)
    # All least sets have this size, and a set of this size that is enough is least.
    sets = [names for names in _subsets(numbers) if len(names) == size and _tell_all(space, names)]
    least = min([int(_price_of(names, prices)) for names in sets])
    return [names for names in sets if _price_of(names, prices) == least]


def _subsets(numbers):
    """Returns the list of all sets of some numbers, as tuples in their order, by the tuples of their places."""
    found = [()]
    for name in numbers[::-1]:
        found = [()] + [(name,) + names for names in found] + found[1:]
    return found


def _size_of_least(numbers, space):
    """Returns the size of all least sets of some numbers."""
    names = ()
    for name in numbers:
        if equation_by(space, name, names) is None:
            names = names + (name,)
    return len(names)


def _tell_all(space, names):
    """Returns whether some numbers tell all others."""
    return all([equation_by(space, name, names) is not None for name in space.names if name not in names])


def _price_of(names, prices):
    """Returns the sum of the prices of some numbers."""
    return sum([prices[name] for name in names])


def _equations_by(numbers, space, names):
    """Returns the tuple of (name, n, terms) for each number that is not in a set, in order."""
    found = []
    for name in numbers:
        if name not in names:
            many, form = equation_by(space, name, names)
            found.append((name, many, form.terms))
    return tuple(found)


def _is_multiple(numbers, thing, right):
    """Returns whether any object is a triple (name, n, terms), or a positive multiple of it."""
    if not isinstance(thing, tuple) or len(thing) != 3:
        return False
    name, many, terms = thing
    form = canonical_form(terms, numbers, 1)
    if name != right[0] or not is_integer(many) or many < 1 or form is None:
        return False
    # n and the factors have no common divisor in the right one, so all multiples are integer ones.
    return many % right[1] == 0 and form.terms == tuple([(many // right[1] * factor, names)
                                                         for factor, names in right[2]])


def _is_nearer(names, others, goal):
    """Returns whether a set comes from another one by one number exchanged for one of a goal."""
    gone = [name for name in names if name not in others]
    come = [name for name in others if name not in names]
    return len(gone) == 1 and len(come) == 1 and gone[0] not in goal and come[0] in goal
