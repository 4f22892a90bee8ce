"""The rules of a sheet, prepared: with the places of numbers instead of their names."""


def plans_of(sheet):
    """Returns a dict from the tags to the plans of their rules, one for each number, in order.

    A plan is a tuple of terms (factor, uses), uses a tuple of pairs (child, place of a number).
    """
    schema, numbers, rules = sheet
    places = {kind: {name: place for place, name in enumerate(names)} for kind, names in numbers.items()}
    return {tag: tuple([_plan_of(places, children, rule) for rule in rules[tag]])
            for variants in schema.values() for tag, children in variants}


def _plan_of(places, children, rule):
    """Returns the plan of one rule of a tag with some children."""
    return tuple([(factor, tuple([(child, places[children[child]][name]) for child, name in uses]))
                  for factor, uses in rule])


def values_over(plans, parts):
    """Returns the tuple of the values at a tree from those at its parts, by the plans of its tag."""
    return tuple([_value_over(plan, parts) for plan in plans])


def _value_over(plan, parts):
    """Returns one value at a tree from the values at its parts."""
    total = 0
    for factor, uses in plan:
        worth = factor
        for child, place in uses:
            worth = worth * parts[child][place]
        total = total + worth
    return total


def values_of_parts(plans, parts):
    """Returns the list of the values at all parts of a tree, each part ahead of its own parts, from the left."""
    below = []
    found = []
    for part in parts[::-1]:
        told = values_over(plans[part[0]], [below.pop() for _ in part[1:]])
        below.append(told)
        found.append(told)
    return found[::-1]
