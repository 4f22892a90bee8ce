"""Equations that hold modulo a number, for all trees."""

from treelaws.equations import form_of_row
from treelaws.errors import Mismatch, NoForm, NoModulus
from treelaws.forms import is_form_over
from treelaws.integers import is_integer
from treelaws.names import are_names
from treelaws.needs import need_claim, need_equations, need_few, need_few_products, need_kind, need_sheet
from treelaws.products import all_products, how_many_products, row_of_terms
from treelaws.remainders import across_modulo
from treelaws.search import search_modulo
from treelaws.triangles import rest_by, triangle_of

_MOST_DEGREE = 3
_MOST_MODULUS = 1000


class ModSpace:
    """A space modulo a number, of a degree over some names, by its unique triangle."""

    def __init__(self, names, degree, modulus, forms):
        if not are_names(names):
            raise NoForm("the names of a space are a tuple of different names")
        if not is_integer(degree) or not 0 <= degree <= _MOST_DEGREE:
            raise NoForm("the degree of a space is an integer from 0 to 3")
        if not _is_modulus(modulus):
            raise NoModulus("a modulus is an integer from 2 to 1,000")
        if not isinstance(forms, (list, tuple)) or not all([is_form_over(form, names, degree) for form in forms]):
            raise NoForm("the forms of a space are over its names, of at most its degree")
        self.names = tuple(sorted(names, key=str))
        self.degree = degree
        self.modulus = modulus
        products = all_products(names, degree)
        rows = [row_of_terms(form.terms, products) for form in forms]
        self._triangle = triangle_of(rows, len(products), modulus)
        self.basis = tuple([form_of_row(row, products) for place, row in enumerate(self._triangle)
                            if row[place] < modulus])

    @property
    def many(self):
        """How many forms with factors from 0 to modulus - 1 the space has."""
        count = 1
        for place, row in enumerate(self._triangle):
            count = count * (self.modulus // row[place])
        return count

    def columns(self):
        """Returns the list of all products of at most the degree, in order."""
        return all_products(self.names, self.degree)

    def rest(self, form):
        """Returns the rest of a form by the space; raises Mismatch."""
        if not is_form_over(form, self.names, self.degree):
            raise Mismatch("a space takes forms over its names, of at most its degree")
        products = self.columns()
        row = row_of_terms(form.terms, products)
        return form_of_row(rest_by(self._triangle, row, 0, self.modulus), products)

    def __or__(self, other):
        _need_alike(self, other)
        return ModSpace(self.names, self.degree, self.modulus, self.basis + other.basis)

    def __and__(self, other):
        _need_alike(self, other)
        # What both have is just what is 0, modulo the modulus, wherever all forms of the one or the other are.
        products = self.columns()
        across = _across(self, products) + _across(other, products)
        rows = across_modulo(across, len(products), self.modulus)
        return ModSpace(self.names, self.degree, self.modulus, [form_of_row(row, products) for row in rows])

    def __eq__(self, other):
        return (isinstance(other, ModSpace) and self.names == other.names and self.degree == other.degree
                and self.modulus == other.modulus and self.basis == other.basis)

    def __contains__(self, form):
        return len(self.rest(form)) == 0

    def __len__(self):
        return len(self.basis)

    def __bool__(self):
        return bool(self.basis)


def _is_modulus(thing):
    """Returns whether any object is a modulus."""
    return is_integer(thing) and 2 <= thing <= _MOST_MODULUS


def _need_alike(space, other):
    """Raises Mismatch unless any object is a ModSpace of the same names, degree and modulus."""
    if not isinstance(other, ModSpace) or other.names != space.names or other.degree != space.degree:
        raise Mismatch("two spaces go together if they have the same names, degree and modulus")
    if other.modulus != space.modulus:
        raise Mismatch("two spaces modulo a number go together if they have the same modulus")


def _across(space, products):
    """Returns a list of rows that generate, modulo the modulus, all rows at which a space's forms are 0."""
    rows = [row_of_terms(form.terms, products) for form in space.basis]
    return across_modulo(rows, len(products), space.modulus)


def first_trees_modulo(sheet, degree, modulus):
    """Returns a dict from the kinds, in order, to the tuples of their first trees modulo a number."""
    need_equations(sheet, degree)
    return {kind: tuple(finder.firsts) for kind, finder in _finders(sheet, degree, modulus).items()}


def equations_modulo(sheet, degree, modulus):
    """Returns a dict from the kinds, in order, to the ModSpaces of their equations modulo a number."""
    need_equations(sheet, degree)
    found = {}
    for kind, finder in _finders(sheet, degree, modulus).items():
        products = all_products(sheet[1][kind], degree)
        forms = [form_of_row(row, products) for row in finder.spans[0].null_forms()]
        found[kind] = ModSpace(sheet[1][kind], degree, modulus, forms)
    return found


def first_break_modulo(sheet, kind, form, modulus):
    """Returns the first tree of a kind at which a form is not divisible by a number, or None."""
    need_sheet(sheet)
    need_kind(sheet, kind)
    need_claim(sheet, kind, form)
    degree = max(1, form.degree)
    need_few_products(sheet, degree)
    finder = _finders(sheet, degree, modulus)[kind]
    for tree, told in zip(finder.firsts, finder.told):
        if form({name: worth for name, worth in zip(sheet[1][kind], told)}) % modulus:
            return tree
    return None


def _finders(sheet, degree, modulus):
    """Returns what search_modulo returns; raises NoModulus, then TooMany(4000), then TooMany(200)."""
    if not _is_modulus(modulus):
        raise NoModulus("a modulus is an integer from 2 to 1,000")
    times = _how_many_factors(modulus)
    need_few(sheet[0], {kind: times * how_many_products(len(names), degree) for kind, names in sheet[1].items()})
    return search_modulo(sheet, degree, modulus)


def _how_many_factors(modulus):
    """Returns how many prime factors a number has, each as often as it divides it."""
    count = 0
    left = modulus
    for divisor in range(2, modulus + 1):
        while left % divisor == 0:
            left = left // divisor
            count += 1
    return count
