"""Spaces: all forms over some names, up to a degree, that are sums of rational multiples of some forms."""

from treelaws.echelon import echelon_of, rest_of, rows_across
from treelaws.errors import Mismatch, NoForm
from treelaws.forms import Form, is_form_over
from treelaws.integers import is_integer
from treelaws.names import are_names
from treelaws.products import all_products, in_order_of_products

_MOST_DEGREE = 3


class Space:
    """A space of a degree over some names, by its unique basis."""

    def __init__(self, names, degree, forms):
        if not are_names(names):
            raise NoForm("the names of a space are a tuple of different names")
        if not is_integer(degree) or not 0 <= degree <= _MOST_DEGREE:
            raise NoForm("the degree of a space is an integer from 0 to 3")
        if not isinstance(forms, (list, tuple)) or not all([is_form_over(form, names, degree) for form in forms]):
            raise NoForm("the forms of a space are over its names, of at most its degree")
        self.names = tuple(sorted(names, key=str))
        self.degree = degree
        self.basis = _basis_of([form.terms for form in forms])
        self._echelon = {form.terms[0][1]: _factors_of(form.terms) for form in self.basis}

    def columns(self):
        """Returns the list of all products of at most the degree, in order."""
        return all_products(self.names, self.degree)

    def free(self):
        """Returns the list of the products that are no first products of the basis, in order."""
        return [product for product in self.columns() if product not in self._echelon]

    def rest(self, form):
        """Returns (n, rest): the rest of n times a form by the space, n the least; raises Mismatch."""
        if not is_form_over(form, self.names, self.degree):
            raise Mismatch("a space takes forms over its names, of at most its degree")
        many, rest = rest_of(_factors_of(form.terms), self._echelon)
        return many, _form_of(rest)

    def within(self, other):
        """Returns whether all forms of the space are in another one; raises Mismatch."""
        _need_alike(self, other)
        return all([form in other for form in self.basis])

    def __or__(self, other):
        _need_alike(self, other)
        return Space(self.names, self.degree, self.basis + other.basis)

    def __and__(self, other):
        _need_alike(self, other)
        return Space(self.names, self.degree, _common_forms(self.basis, other.basis))

    def __eq__(self, other):
        return (isinstance(other, Space) and self.names == other.names and self.degree == other.degree
                and self.basis == other.basis)

    def __contains__(self, form):
        return len(self.rest(form)[1]) == 0

    def __len__(self):
        return len(self.basis)

    def __bool__(self):
        return bool(self.basis)


def _need_alike(space, other):
    """Raises Mismatch unless any object is a space of the same names and degree as a space."""
    if not isinstance(other, Space) or other.names != space.names or other.degree != space.degree:
        raise Mismatch("two spaces go together if they have the same names and degree")


def _factors_of(terms):
    """Returns a dict from the products of some terms to their factors."""
    return {names: factor for factor, names in terms}


def _form_of(factors):
    """Returns the form with the terms that a dict from products to factors tells."""
    return Form([(factor, names) for names, factor in factors.items()])


def _columns_of(rows):
    """Returns the list of the products in some tuples of terms, in order."""
    return in_order_of_products([names for terms in rows for _, names in terms])


def _basis_of(rows):
    """Returns the tuple of the forms of the basis that some forms, told by their terms, generate."""
    products = _columns_of(rows)
    places = {product: place for place, product in enumerate(products)}
    found = echelon_of([{places[names]: factor for factor, names in terms} for terms in rows])
    return tuple([_form_of({products[place]: factor for place, factor in row.items()}) for row in found.values()])


def _common_forms(one, other):
    """Returns a list of forms that generate what two bases have in common."""
    products = _columns_of([form.terms for form in one + other])
    # What both have is just what is across all that is across the one or the other.
    across = _across(one, products) + _across(other, products)
    found = rows_across(echelon_of(across), len(products))
    return [_form_of({products[place]: factor for place, factor in row.items()}) for row in found]


def _across(basis, products):
    """Returns a list of rows, on the places of some products, that generate all rows across those of a basis."""
    places = {product: place for place, product in enumerate(products)}
    rows = [{places[names]: factor for factor, names in form.terms} for form in basis]
    return rows_across({places[form.terms[0][1]]: row for form, row in zip(basis, rows)}, len(products))
