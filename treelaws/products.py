"""Products of names: ascending tuples of names, their order, and their values at a tree."""


def in_order_of_products(products):
    """Returns the list of some products in order, the greater degree first, without duplicates."""
    return [names for _, names in sorted(set([(-len(names), names) for names in products]))]


def all_products(names, degree):
    """Returns the list of all products of at most so many of some different names, in order."""
    ascending = sorted(names, key=str)
    level = [()]
    found = level
    for _ in range(degree):
        level = [made + (name,) for made in level for name in ascending if not made or name >= made[-1]]
        found = level + found
    return found


def how_many_products(many, degree):
    """Returns how many products of at most a degree so many names have."""
    count = 1
    for step in range(1, degree + 1):
        count = count * (many + step) // step
    return count


def row_plan(names, degree):
    """Returns how row_of works out the values of all products of at most so many of some names.

    It is a pair: the places of the ascending names, and for each degree above 1 the pairs (place of
    a product of the degree below, place of a further name).
    """
    places = [place for _, place in sorted(set([(name, place) for place, name in enumerate(names)]))]
    lasts = list(range(len(names)))
    levels = []
    for _ in range(1, degree):
        levels.append([(at, name) for at, last in enumerate(lasts) for name in range(last, len(names))])
        lasts = [name for _, name in levels[-1]]
    return places, levels


def row_of(plan, told):
    """Returns the list of the values of all products, in order, where told are those of the names."""
    places, levels = plan
    singles = [told[place] for place in places]
    level = singles
    row = singles + [1]
    for steps in levels:
        level = [level[at] * singles[name] for at, name in steps]
        row = level + row
    return row


def row_of_terms(terms, products):
    """Returns the row of the factors of some terms (factor, product) at some products."""
    factors = {product: factor for factor, product in terms}
    return [factors.get(product, 0) for product in products]
