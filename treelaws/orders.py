"""Whether the listed trees of an order certificate are just the first trees."""

from treelaws.plans import plans_of, values_of_parts, values_over
from treelaws.products import all_products, row_of, row_of_terms, row_plan
from treelaws.spans import Sieve, row_value
from treelaws.trees import in_order, parts_of, size_of

_MOST_TAGS = 200


class Listed:
    """The listed trees of one kind, with the rows of factors of their forms, their sizes and values."""

    def __init__(self, names, degree, pairs, plans):
        products = all_products(names, degree)
        self.firsts = [tree for tree, _ in pairs]
        self.forms = [row_of_terms(terms, products) for _, terms in pairs]
        self.sizes = [size_of(tree) for tree in self.firsts]
        self.told = [values_of_parts(plans, parts_of(tree))[0] for tree in self.firsts]
        self._plan = row_plan(names, degree)

    def row(self, told):
        """Returns the row of a tree with some values."""
        return row_of(self._plan, told)

    def place_of(self, tree):
        """Returns the place of a tree that is listed, or None."""
        for place, other in enumerate(self.firsts):
            if tree == other:
                return place
        return None


def is_ordered(sheet, degree, spaces, firsts):
    """Returns whether an order certificate is right, where firsts is a dict from the kinds to pairs as told.

    There must be as many pairs as point 12 asks for.
    """
    schema, numbers, _ = sheet
    plans = plans_of(sheet)
    listed = {kind: Listed(numbers[kind], degree, pairs, plans) for kind, pairs in firsts.items()}
    if not all([_ascends(schema, one) for one in listed.values()]):
        return False
    for kind in schema:
        keys = [_key_of(schema, kind, listed, tree) for tree in listed[kind].firsts]
        products = all_products(numbers[kind], degree)
        forms = [row_of_terms(form.terms, products) for form in spaces[kind].basis]
        if None in keys or not _is_right(schema, kind, plans, listed, keys, forms):
            return False
    return True


def _ascends(schema, one):
    """Returns whether listed trees ascend in order and have at most 200 tags."""
    return all([size <= _MOST_TAGS for size in one.sizes]) and in_order(schema, one.firsts) == one.firsts


def _key_of(schema, kind, listed, tree):
    """Returns the key by which a tree over listed ones is ordered among such trees of its kind, or None.

    It is a tuple of the size, the variant's place and the places of the parts.
    """
    for variant, (tag, children) in enumerate(schema[kind]):
        if tag == tree[0]:
            picks = tuple([listed[child].place_of(part) for child, part in zip(children, tree[1:])])
            return None if None in picks else (size_of(tree), variant, picks)
    return None


def _one_step_keys(schema, kind, listed):
    """Returns the ascending list of the keys of all one-step trees of a kind."""
    keys = []
    for variant, (_, children) in enumerate(schema[kind]):
        picks = [(1, ())]
        for child in children:
            sizes = listed[child].sizes
            picks = [(total + size, pick + (place,)) for total, pick in picks for place, size in enumerate(sizes)]
        keys.extend([(total, variant, pick) for total, pick in picks])
    return sorted(set(keys))


def _is_right(schema, kind, plans, listed, keys, forms):
    """Returns whether the forms are 0 at all one-step trees, and those of listed trees at those ahead of these.

    keys are those of the listed trees of the kind, in order.
    """
    one = listed[kind]
    at = 0
    sieve = Sieve(forms + one.forms)
    for key in _one_step_keys(schema, kind, listed):
        row = one.row(_told_at(schema, kind, plans, listed, key))
        if at < len(keys) and key == keys[at]:
            if row_value(one.forms[at], row) == 0:
                return False
            at = at + 1
            sieve = Sieve(forms + one.forms[at:])
        if not sieve.all_zero(row):
            return False
    return True


def _told_at(schema, kind, plans, listed, key):
    """Returns the values at a one-step tree of a kind."""
    _, variant, picks = key
    tag, children = schema[kind][variant]
    return values_over(plans[tag], [listed[child].told[place] for child, place in zip(children, picks)])
