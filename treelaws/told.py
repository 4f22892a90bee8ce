"""What follows from lower equations, and which numbers are told by others."""

from treelaws.echelon import echelon_of
from treelaws.equations import equations, spaces_of
from treelaws.forms import Form
from treelaws.integers import is_integer
from treelaws.needs import need_equations, need_kind, need_number, need_numbers
from treelaws.products import all_products
from treelaws.search import search
from treelaws.sheets import named_values
from treelaws.spaces import Space
from treelaws.spans import Span, row_value
from treelaws.trees import is_tree


def lower_multiples(sheet, kind, degree):
    """Returns the space of the lower multiples of a kind for a degree."""
    return _lower_multiples(_space_of_kind(sheet, kind, degree))


def new_equations(sheet, kind, degree):
    """Returns the tuple of the new equations of a kind for a degree."""
    space = _space_of_kind(sheet, kind, degree)
    lower = _lower_multiples(space)
    return Space(space.names, degree, [lower.rest(form)[1] for form in space.basis]).basis


def _space_of_kind(sheet, kind, degree):
    """Returns the space of the equations of a kind; raises as lower_multiples does."""
    need_equations(sheet, degree)
    need_kind(sheet, kind)
    return spaces_of(sheet, degree, search(sheet, degree))[kind]


def _lower_multiples(space):
    """Returns the space of the lower multiples, by the space of the equations."""
    forms = []
    # The equations of a lesser degree are just the sums of basis forms of at most this degree.
    for form in space.basis:
        least = form.degree if form.degree > 1 else 1
        if least < space.degree:
            further = all_products(space.names, space.degree - least)
            forms.extend([form * Form(((1, product),)) for product in further])
    return Space(space.names, space.degree, forms)


def told_by(sheet, kind, name, others):
    """Returns (n, form): n times a number is a form of others at each tree; None if it is not told by them."""
    _need_names(sheet, kind, name, others)
    return equation_by(equations(sheet, 1)[kind], name, others)


def equation_by(space, name, others):
    """Returns what told_by returns, where space is that of all equations of degree 1."""
    order = [other for other in space.names if other not in others]
    # The number itself stands, under another column, behind those that may not be used and ahead of the others,
    # the last one of these ahead: so each of them that is told by those ahead of it is left out.
    own = len(order)
    columns = {(other,): place for place, other in enumerate(order)}
    for place, other in enumerate(others):
        columns[(other,)] = own + len(others) - place
    columns[()] = own + len(others) + 1
    rows = [{columns[names]: factor for factor, names in form.terms} for form in space.basis]
    row = echelon_of(rows + [{columns[(name,)]: 1, own: -1}]).get(own)
    if row is None:
        return None
    return row[own], Form([(-row[place], names) for names, place in columns.items() if place in row])


def untold(sheet, kind, name, others):
    """Returns a tuple of pairs (integer, tree) that show that a number is not told by others, or None."""
    _need_names(sheet, kind, name, others)
    finder = search(sheet, 1)[kind]
    named = [{own: worth for own, worth in zip(sheet[1][kind], told)} for told in finder.told]
    span = Span(len(named))
    span.takes([1 for _ in named])
    for other in others:
        span.takes([worths[other] for worths in named])
    for row in span.null_forms():
        if row_value(row, [worths[name] for worths in named]):
            return tuple([(many, tree) for many, tree in zip(row, finder.firsts) if many])
    return None


def shows_untold(sheet, kind, name, others, thing):
    """Returns whether any object is a tuple of pairs (integer, tree) that show that a number is not told."""
    _need_names(sheet, kind, name, others)
    if not isinstance(thing, tuple) or not all([_is_share(sheet[0], kind, pair) for pair in thing]):
        return False
    shares = [(many, named_values(sheet, tree)) for many, tree in thing]
    if sum([many for many, _ in shares]) != 0 or _share_of(shares, name) == 0:
        return False
    return all([_share_of(shares, other) == 0 for other in others])


def _need_names(sheet, kind, name, others):
    """Raises NoKind, then NoNumber, as told_by does."""
    need_kind(sheet, kind)
    need_number(sheet, kind, name)
    need_numbers(sheet, kind, others)


def _is_share(schema, kind, thing):
    """Returns whether any object is a pair of an integer and a tree of a kind."""
    if not isinstance(thing, tuple) or len(thing) != 2:
        return False
    return is_integer(thing[0]) and is_tree(schema, kind, thing[1])


def _share_of(shares, name):
    """Returns the sum of integer times value of a number, over pairs (integer, values)."""
    return sum([many * worths[name] for many, worths in shares])
