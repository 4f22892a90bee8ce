"""Forms: polynomials with integer factors over names."""

from treelaws.errors import NoForm, TooMany
from treelaws.integers import is_integer
from treelaws.names import is_name
from treelaws.products import in_order_of_products

_MOST_DEGREE = 12


class Form:
    """A sum of terms, each an integer other than 0 times a product of names."""

    def __init__(self, terms):
        if not _are_terms(terms):
            raise NoForm("a form is made of a list or tuple of pairs of an integer and a tuple of names")
        self.terms = _summed(terms)
        self.degree = len(self.terms[0][1]) if self.terms else -1
        if self.degree > _MOST_DEGREE:
            raise TooMany(_MOST_DEGREE)
        self.names = tuple(sorted(set([name for _, names in self.terms for name in names])))
        # Tuples are compared as the document compares forms.
        self.order = (self.degree, tuple([((-len(names), names), factor) for factor, names in self.terms]))

    @staticmethod
    def named(name):
        """Returns the form of one name."""
        return Form(((1, (name,)),))

    @staticmethod
    def number(number):
        """Returns the form of an integer."""
        return Form(((number, ()),))

    def __add__(self, other):
        form = _form_of(other)
        if form is None:
            return NotImplemented
        return Form(self.terms + form.terms)

    def __radd__(self, other):
        form = _form_of(other)
        if form is None:
            return NotImplemented
        return Form(form.terms + self.terms)

    def __sub__(self, other):
        form = _form_of(other)
        if form is None:
            return NotImplemented
        return Form(self.terms + _negative(form.terms))

    def __rsub__(self, other):
        form = _form_of(other)
        if form is None:
            return NotImplemented
        return Form(form.terms + _negative(self.terms))

    def __mul__(self, other):
        form = _form_of(other)
        if form is None:
            return NotImplemented
        return _multiplied(self, form)

    def __rmul__(self, other):
        form = _form_of(other)
        if form is None:
            return NotImplemented
        return _multiplied(form, self)

    def __neg__(self):
        return Form(_negative(self.terms))

    def __eq__(self, other):
        if not isinstance(other, Form):
            return False
        return self.order == other.order

    def __lt__(self, other):
        if not isinstance(other, Form):
            return NotImplemented
        return self.order < other.order

    def __le__(self, other):
        if not isinstance(other, Form):
            return NotImplemented
        return self.order <= other.order

    def __gt__(self, other):
        if not isinstance(other, Form):
            return NotImplemented
        return self.order > other.order

    def __ge__(self, other):
        if not isinstance(other, Form):
            return NotImplemented
        return self.order >= other.order

    def __bool__(self):
        return bool(self.terms)

    def __len__(self):
        return len(self.terms)

    def __contains__(self, name):
        return name in self.names

    def __call__(self, values):
        if not all([name in values for name in self.names]):
            raise NoForm("a name of the form has no value")
        return _value_of(self.terms, values)

    def __str__(self):
        return str(text_of_terms(self.terms))


def _are_terms(thing):
    """Returns whether any object is a list or tuple of pairs of an integer and a tuple of names."""
    if not isinstance(thing, (list, tuple)) or not all([_is_term(term) for term in thing]):
        return False
    # The same few names stand in many terms: each is looked at once.
    return all([is_name(name) for name in sorted(set([name for _, names in thing for name in names]))])


def _is_term(thing):
    """Returns whether any object is a pair of an integer and a tuple of strings."""
    if not isinstance(thing, tuple) or len(thing) != 2:
        return False
    factor, names = thing
    return is_integer(factor) and isinstance(names, tuple) and all([isinstance(name, str) for name in names])


def _summed(terms):
    """Returns the tuple of the terms that some terms make, in order, like products added up."""
    factors = {}
    for factor, names in terms:
        product = tuple(sorted(names, key=str))
        factors[product] = factors.get(product, 0) + factor
    left = [product for product, factor in factors.items() if factor]
    return tuple([(factors[product], product) for product in in_order_of_products(left)])


def _form_of(thing):
    """Returns a form itself, the form of an integer, or None for another object."""
    if isinstance(thing, Form):
        return thing
    return Form.number(thing) if is_integer(thing) else None


def _negative(terms):
    """Returns the tuple of some terms with negative factors."""
    return tuple([(-factor, names) for factor, names in terms])


def _multiplied(one, other):
    """Returns the product of two forms; raises TooMany."""
    # The first terms never cancel, so the degree is known ahead of a long multiplication.
    if one.degree + other.degree > _MOST_DEGREE:
        raise TooMany(_MOST_DEGREE)
    return Form([(factor * times, names + more) for factor, names in one.terms for times, more in other.terms])


def _value_of(terms, values):
    """Returns the sum of some terms, where a dict gives the values of their names."""
    total = 0
    for factor, names in terms:
        worth = factor
        for name in names:
            worth = worth * values[name]
        total = total + worth
    return total


def text_of_terms(terms):
    """Returns the text of a sum of terms (factor, words), the words to stand in a product."""
    if not terms:
        return "0"
    signs = ["-" if terms[0][0] < 0 else ""] + [" - " if factor < 0 else " + " for factor, _ in terms[1:]]
    return "".join([f"{sign}{_text_without_sign(term)}" for sign, term in zip(signs, terms)])


def _text_without_sign(term):
    """Returns the text of a term without the sign of its factor."""
    factor, names = term
    many = abs(factor)
    if many == 1 and names:
        return "*".join(names)
    return "*".join([str(many)] + list(names))


def canonical_form(thing, names, degree):
    """Returns the form over some names, of at most a degree, whose terms (point 8) any object is, or None."""
    if not isinstance(thing, tuple) or not _are_terms(thing):
        return None
    if any([len(product) > degree for _, product in thing]):
        return None
    form = Form(thing)
    if form.terms != thing or not all([name in names for name in form.names]):
        return None
    return form


def is_form_over(thing, names, degree):
    """Returns whether any object is a form over some names, of at most a degree."""
    if not isinstance(thing, Form) or thing.degree > degree:
        return False
    return len(set(thing.names) - set(names)) == 0
