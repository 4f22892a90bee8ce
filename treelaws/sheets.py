"""Sheets: schemas with numbers and the rules by which these are computed over trees."""

from treelaws.integers import is_integer
from treelaws.names import are_names, is_name
from treelaws.plans import plans_of, values_of_parts
from treelaws.schemas import is_schema, kind_of, tags_of
from treelaws.trees import parts_of, paths

_MOST_NUMBERS = 6
_MOST_TERMS = 8
_MOST_FACTOR = 1000000


def is_sheet(thing):
    """Returns whether any object is a sheet."""
    if not isinstance(thing, tuple) or len(thing) != 3:
        return False
    schema, numbers, rules = thing
    return is_schema(schema) and _are_numbers(schema, numbers) and _are_rules(schema, numbers, rules)


def _are_numbers(schema, thing):
    """Returns whether any object gives each kind of a schema its numbers."""
    if not isinstance(thing, dict) or list(thing) != list(schema):
        return False
    return all([are_names(names) and len(names) <= _MOST_NUMBERS for names in thing.values()])


def _are_rules(schema, numbers, thing):
    """Returns whether any object gives each tag of a schema its rules."""
    if not isinstance(thing, dict) or list(thing) != tags_of(schema):
        return False
    return all([_are_rules_of(numbers, kind, children, thing[tag])
                for kind, variants in schema.items() for tag, children in variants])


def _are_rules_of(numbers, kind, children, thing):
    """Returns whether any object is a tuple with one rule for each number of a kind, over some children."""
    if not isinstance(thing, tuple) or len(thing) != len(numbers[kind]):
        return False
    below = [numbers[child] for child in children]
    return all([_is_rule(below, rule) for rule in thing])


def _is_rule(below, thing):
    """Returns whether any object is a rule, where below lists the numbers of the children."""
    if not isinstance(thing, tuple) or len(thing) > _MOST_TERMS:
        return False
    if not all([_is_term(below, term) for term in thing]):
        return False
    return _ascend([term[1] for term in thing])


def _is_term(below, thing):
    """Returns whether any object is a term of a rule."""
    if not isinstance(thing, tuple) or len(thing) != 2:
        return False
    factor, uses = thing
    if not is_integer(factor) or factor == 0 or abs(factor) > _MOST_FACTOR:
        return False
    if not isinstance(uses, tuple) or not all([_is_use(below, use) for use in uses]):
        return False
    return _ascend([use[0] for use in uses])


def _is_use(below, thing):
    """Returns whether any object is a pair of a child's index and the name of a number of this child."""
    if not isinstance(thing, tuple) or len(thing) != 2:
        return False
    child, name = thing
    return is_integer(child) and 0 <= child < len(below) and is_name(name) and name in below[child]


def _ascend(things):
    """Returns whether each of some things is less than the next one."""
    return all([one < other for one, other in zip(things, things[1:])])


def same_sheet(sheet):
    """Returns the same sheet, with dicts of its own."""
    schema, numbers, rules = sheet
    return dict(schema), dict(numbers), dict(rules)


def values(sheet, tree):
    """Returns the tuple of the values of the numbers of a tree."""
    return values_of_parts(plans_of(sheet), parts_of(tree))[0]


def named_values(sheet, tree):
    """Returns a dict from the names of the numbers of a tree, in order, to their values."""
    schema, numbers, _ = sheet
    names = numbers[kind_of(schema, tree[0])]
    return {name: worth for name, worth in zip(names, values(sheet, tree))}


def all_values(sheet, tree):
    """Returns a dict from the paths of all parts of a tree, in order, to the tuples of their values."""
    told = values_of_parts(plans_of(sheet), parts_of(tree))
    return {path: worths for path, worths in zip(paths(tree), told)}


def renamed(sheet, names):
    """Returns the sheet with other names of numbers, by a dict from old names to new ones."""
    schema, numbers, rules = sheet
    new = {kind: tuple([names.get(name, name) for name in old]) for kind, old in numbers.items()}
    return dict(schema), new, {tag: tuple([_renamed_rule(rule, names) for rule in some])
                               for tag, some in rules.items()}


def _renamed_rule(rule, names):
    """Returns a rule with other names, its terms in order."""
    terms = [(tuple([(child, names.get(name, name)) for child, name in uses]), factor) for factor, uses in rule]
    return tuple([(factor, uses) for uses, factor in sorted(set(terms))])
