"""Certificates: papers that show which equations hold, and that there are no others."""

from treelaws.closed import are_closed
from treelaws.equations import form_of_row, spaces_of
from treelaws.forms import canonical_form
from treelaws.needs import need_equations
from treelaws.orders import is_ordered
from treelaws.plans import plans_of, values_of_parts
from treelaws.products import all_products, how_many_products, row_of, row_plan
from treelaws.search import search
from treelaws.spaces import Space
from treelaws.spans import Span
from treelaws.trees import is_tree, parts_of


def certificate(sheet, degree):
    """Returns (forms, trees): the terms of the basis forms of all equations, and the first trees."""
    need_equations(sheet, degree)
    finders = search(sheet, degree)
    trees = {kind: tuple(finder.firsts) for kind, finder in finders.items()}
    return _terms_of(spaces_of(sheet, degree, finders)), trees


def order_certificate(sheet, degree):
    """Returns (forms, firsts): as certificate, each first tree with the terms of a form that makes it right."""
    need_equations(sheet, degree)
    finders = search(sheet, degree)
    firsts = {kind: _firsts_of(sheet[1][kind], degree, finder) for kind, finder in finders.items()}
    return _terms_of(spaces_of(sheet, degree, finders)), firsts


def _terms_of(spaces):
    """Returns a dict from the kinds to the tuples of the terms of the basis forms of their spaces."""
    return {kind: tuple([form.terms for form in space.basis]) for kind, space in spaces.items()}


def _firsts_of(names, degree, finder):
    """Returns the tuple of the first trees of a kind, each with the terms of a form that makes it right."""
    products = all_products(names, degree)
    steps = finder.spans[0].steps()
    return tuple([(tree, form_of_row(row, products).terms) for tree, row in zip(finder.firsts, steps)])


def shows_closed(sheet, degree, thing):
    """Returns whether any object is a dict like the certificate's first part whose forms are closed."""
    need_equations(sheet, degree)
    spaces = _spaces_told(sheet, degree, thing)
    return spaces is not None and are_closed(sheet, degree, spaces)


def shows_equations(sheet, degree, thing):
    """Returns whether any object is a right certificate."""
    need_equations(sheet, degree)
    spaces = _spaces_of_pair(sheet, degree, thing)
    if spaces is None or not _trees_span(sheet, degree, spaces, thing[1]):
        return False
    return are_closed(sheet, degree, spaces)


def shows_order(sheet, degree, thing):
    """Returns whether any object is a right order certificate."""
    need_equations(sheet, degree)
    spaces = _spaces_of_pair(sheet, degree, thing)
    if spaces is None or not _are_firsts(sheet, degree, spaces, thing[1]):
        return False
    return is_ordered(sheet, degree, spaces, thing[1])


def _spaces_of_pair(sheet, degree, thing):
    """Returns what _spaces_told returns for the first part of any object, or None if it is no pair."""
    if not isinstance(thing, tuple) or len(thing) != 2:
        return None
    return _spaces_told(sheet, degree, thing[0])


def _spaces_told(sheet, degree, thing):
    """Returns a dict from the kinds to the spaces that any object tells, or None if it is no dict as told."""
    schema, numbers, _ = sheet
    if not _has_tuples(schema, thing):
        return None
    forms = {kind: [canonical_form(terms, numbers[kind], degree) for terms in some] for kind, some in thing.items()}
    if any([form is None for some in forms.values() for form in some]):
        return None
    return {kind: Space(numbers[kind], degree, some) for kind, some in forms.items()}


def _has_tuples(schema, thing):
    """Returns whether any object is a dict from the kinds of a schema, in order, to tuples."""
    if not isinstance(thing, dict) or list(thing) != list(schema):
        return False
    return all([isinstance(some, tuple) for some in thing.values()])


def _trees_span(sheet, degree, spaces, thing):
    """Returns whether any object gives each kind trees with independent rows, as many as spaces leave."""
    schema, numbers, _ = sheet
    if not _has_tuples(schema, thing) or not _are_as_many(spaces, numbers, degree, thing):
        return False
    if not all([is_tree(schema, kind, tree) for kind, some in thing.items() for tree in some]):
        return False
    plans = plans_of(sheet)
    return all([_are_independent(plans, numbers[kind], degree, some) for kind, some in thing.items()])


def _are_as_many(spaces, numbers, degree, thing):
    """Returns whether a dict gives each kind as many things as products less basis forms of its space."""
    return all([len(some) == how_many_products(len(numbers[kind]), degree) - len(spaces[kind])
                for kind, some in thing.items()])


def _are_independent(plans, names, degree, some):
    """Returns whether the rows of some trees of a kind with some numbers are independent."""
    plan = row_plan(names, degree)
    span = Span(how_many_products(len(names), degree))
    return all([span.takes(row_of(plan, values_of_parts(plans, parts_of(tree))[0])) for tree in some])


def _are_firsts(sheet, degree, spaces, thing):
    """Returns whether any object gives each kind pairs of a tree and terms, as many as spaces leave."""
    schema, numbers, _ = sheet
    if not _has_tuples(schema, thing) or not _are_as_many(spaces, numbers, degree, thing):
        return False
    return all([_is_first(schema, kind, numbers[kind], degree, pair) for kind, some in thing.items() for pair in some])


def _is_first(schema, kind, names, degree, thing):
    """Returns whether any object is a pair of a tree of a kind and the terms of a form of its numbers."""
    if not isinstance(thing, tuple) or len(thing) != 2:
        return False
    return is_tree(schema, kind, thing[0]) and canonical_form(thing[1], names, degree) is not None
