"""The first trees at which forms are not 0."""

from treelaws.errors import NoForm
from treelaws.forms import Form, is_form_over
from treelaws.needs import need_few_products, need_kind
from treelaws.search import search

_MOST_DEGREE = 3


def first_breaks(sheet, kind, forms):
    """Returns (tree, places): the first tree at which some forms are not 0, and the places of these; or None."""
    for tree, worths in _worths(sheet, kind, forms):
        places = tuple([place for place, worth in enumerate(worths) if worth])
        if places:
            return tree, places
    return None


def first_break(sheet, kind, form):
    """Returns the first tree at which a form is not 0, or None."""
    return all_breaks(sheet, kind, (form,))[0]


def all_breaks(sheet, kind, forms):
    """Returns the list of the first trees at which each of some forms is not 0, None for an equation."""
    rows = _worths(sheet, kind, forms)
    return [_first_tree(rows, place) for place in range(len(forms))]


def holds(sheet, kind, form):
    """Returns whether a form is an equation."""
    return first_break(sheet, kind, form) is None


def break_of(finder, names, form):
    """Returns the first tree of a finder at which a form is not 0, or None."""
    for tree, told in zip(finder.firsts, finder.told):
        if _values_of_forms((form,), names, told)[0]:
            return tree
    return None


def all_broken(finder, names, form):
    """Returns the list of pairs (tree, situation) of all trees of a finder at which a form is not 0, in order."""
    return [(tree, situation) for tree, told, situation in zip(finder.firsts, finder.told, finder.situations)
            if _values_of_forms((form,), names, told)[0]]


def breaks_of(sheet, forms):
    """Returns a dict from some names to the first trees at which their forms are not 0, None for an equation.

    forms is a dict from these names to pairs of a kind and the terms of a form of its numbers. Raises what
    first_break raises for one after the other.
    """
    finders = {}
    found = {}
    for name, (kind, terms) in forms.items():
        form = Form(terms)
        degree = max(1, form.degree)
        if degree not in finders:
            need_few_products(sheet, degree)
            finders[degree] = search(sheet, degree)
        found[name] = break_of(finders[degree][kind], sheet[1][kind], form)
    return found


def _first_tree(rows, place):
    """Returns the first tree of some pairs (tree, values) at which the value at a place is not 0, or None."""
    for tree, worths in rows:
        if worths[place]:
            return tree
    return None


def _worths(sheet, kind, forms):
    """Returns the list of pairs (first tree, values of the forms at it), in order; raises as first_breaks does."""
    need_kind(sheet, kind)
    names = sheet[1][kind]
    if not isinstance(forms, tuple) or not all([is_form_over(form, names, _MOST_DEGREE) for form in forms]):
        raise NoForm("what is passed are no forms of the kind's numbers of at most degree 3")
    degree = max(1, max([int(form.degree) for form in forms], default=1))
    need_few_products(sheet, degree)
    finder = search(sheet, degree)[kind]
    return [(tree, _values_of_forms(forms, names, told)) for tree, told in zip(finder.firsts, finder.told)]


def _values_of_forms(forms, names, told):
    """Returns the list of the values of some forms at a tree with some values."""
    named = {name: worth for name, worth in zip(names, told)}
    return [form(named) for form in forms]
