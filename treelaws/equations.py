"""First trees and the equations of all kinds."""

from treelaws.forms import Form
from treelaws.needs import need_equations
from treelaws.products import all_products
from treelaws.search import search
from treelaws.spaces import Space


def first_trees(sheet, degree):
    """Returns a dict from the kinds, in order, to the tuples of their first trees for a degree, in order."""
    need_equations(sheet, degree)
    return {kind: tuple(finder.firsts) for kind, finder in search(sheet, degree).items()}


def equations(sheet, degree):
    """Returns a dict from the kinds, in order, to the spaces of their equations of a degree."""
    need_equations(sheet, degree)
    return spaces_of(sheet, degree, search(sheet, degree))


def spaces_of(sheet, degree, finders):
    """Returns a dict from the kinds, in order, to the spaces of their equations, by what a search found."""
    return {kind: space_of_span(sheet[1][kind], degree, finder.spans[0]) for kind, finder in finders.items()}


def space_of_span(names, degree, span):
    """Returns the space of the forms of some names that are 0 at a span."""
    if span.is_full():
        return Space(names, degree, [])
    products = all_products(names, degree)
    return Space(names, degree, [form_of_row(row, products) for row in span.null_forms()])


def form_of_row(row, products):
    """Returns the form with the factors of a row at some products."""
    return Form([(factor, product) for factor, product in zip(row, products) if factor])
