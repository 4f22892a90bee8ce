"""Whether forms are closed: 0 at a tree wherever all forms of the spaces are 0 at its parts."""

from treelaws.echelon import rows_across
from treelaws.products import all_products, row_of_terms
from treelaws.spans import packed, weight_of


def are_closed(sheet, degree, spaces):
    """Returns whether the forms of some spaces, by the kinds, are closed (point 12)."""
    schema, numbers, rules = sheet
    products = {kind: all_products(names, degree) for kind, names in numbers.items()}
    further = {kind: _further_places(products[kind], numbers[kind], degree) for kind in schema}
    left = {kind: _rows_left(spaces[kind], products[kind]) for kind in schema}
    for kind, variants in schema.items():
        forms = [row_of_terms(form.terms, products[kind]) for form in spaces[kind].basis]
        for tag, children in variants:
            ruled = {name: rule for name, rule in zip(numbers[kind], rules[tag])}
            # The last product of a kind is that of no names.
            start = tuple([len(products[child]) - 1 for child in children])
            made = _products_made(products[kind], ruled, start, [further[child] for child in children])
            if not _all_cancel(forms, made, [left[child] for child in children]):
                return False
    return True


def _further_places(products, names, degree):
    """Returns a dict from (place of a product below a degree, name) to the place of their product."""
    places = {product: place for place, product in enumerate(products)}
    return {(place, name): places[tuple(sorted(product + (name,), key=str))]
            for product, place in places.items() if len(product) < degree for name in names}


def _rows_left(space, products):
    """Returns a list of rows that generate all rows, one number for each product, at which a space's forms are 0.

    A sum over products cancels, with each product replaced by its rest divided by n, if and only if it
    is 0 at these rows.
    """
    places = {product: place for place, product in enumerate(products)}
    rows = [{places[names]: factor for factor, names in form.terms} for form in space.basis]
    across = rows_across({places[form.terms[0][1]]: row for form, row in zip(space.basis, rows)}, len(products))
    return [[row.get(place, 0) for place in range(len(products))] for row in across]


def _products_made(products, ruled, start, further):
    """Returns for each product what the rules make of it.

    That is a dict from tuples, with the place of one product for each child, to factors; start is the
    tuple for 1, and further tells for each child what a product makes with a name.
    """
    made = {(): {start: 1}}
    for product in products[::-1]:
        if product:
            made[product] = _table_times(made[product[:-1]], ruled[product[-1]], further)
    return [made[product] for product in products]


def _table_times(table, rule, further):
    """Returns what a dict as in _products_made makes with one more rule."""
    found = {}
    for key, factor in table.items():
        for times, uses in rule:
            new = key
            for child, name in uses:
                new = new[:child] + (further[child][(new[child], name)],) + new[child + 1:]
            found[new] = found.get(new, 0) + factor * times
    return found


def _all_cancel(forms, made, left):
    """Returns whether all forms are 0 for all choices of one row of each child, where left lists these rows."""
    # No value has more bits than these, so that the forms can be tried as one (as in a sieve).
    bits = weight_of(forms) + weight_of([list(table.values()) for table in made]) + 1
    for rows in left:
        bits = bits + weight_of(rows)
    table = {}
    for joined, one in zip(packed(forms, bits), made):
        for key, factor in one.items():
            table[key] = table.get(key, 0) + joined * factor
    return _cancels(table, left)


def _cancels(table, left):
    """Returns whether a sum over products of the children is 0 for all choices of one row of each child."""
    if not left:
        return table.get((), 0) == 0
    return all([_cancels(_table_at(table, row), left[1:]) for row in left[0]])


def _table_at(table, row):
    """Returns the sum that is left if the first child's products have the values of a row."""
    found = {}
    for key, factor in table.items():
        worth = row[key[0]]
        if worth and factor:
            found[key[1:]] = found.get(key[1:], 0) + factor * worth
    return found
