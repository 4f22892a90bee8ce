"""Changed and joined sheets, what becomes of their equations, and which filters a claim needs."""

from treelaws.breaks import all_broken, break_of
from treelaws.equations import space_of_span, spaces_of
from treelaws.errors import Mismatch, NameTaken, NoFilter, NoKind, NoPrice, NoSheet, TooMany
from treelaws.filters import found_under, is_filter, rests_of
from treelaws.integers import is_integer
from treelaws.names import is_name
from treelaws.needs import need_claim, need_equations, need_kind, need_sheet
from treelaws.runs import Runs
from treelaws.schemas import tags_of
from treelaws.search import search
from treelaws.sheets import is_sheet
from treelaws.spans import Span

_MOST_FILTERS = 5
_MOST_PRICE = 1000000


def with_variant(sheet, kind, variant, rules):
    """Returns the sheet with a variant more, the last one of a kind, and its rules."""
    need_sheet(sheet)
    need_kind(sheet, kind)
    if not isinstance(variant, tuple) or len(variant) != 2 or not is_name(variant[0]):
        raise NoSheet("a variant is a pair of a tag and children")
    schema, numbers, old = sheet
    if variant[0] in old:
        raise NameTaken("the tag is in use")
    new = {one: some + (variant,) if one == kind else some for one, some in schema.items()}
    return _sheet_of(new, numbers, {tag: rules if tag == variant[0] else old[tag] for tag in tags_of(new)})


def without_variant(sheet, tag):
    """Returns the sheet without a variant."""
    need_sheet(sheet)
    _need_tag(sheet, tag)
    schema, numbers, rules = sheet
    new = {kind: tuple([variant for variant in some if variant[0] != tag]) for kind, some in schema.items()}
    return _sheet_of(new, numbers, {one: rules[one] for one in tags_of(new)})


def with_rules(sheet, tag, rules):
    """Returns the sheet with other rules of a tag."""
    need_sheet(sheet)
    _need_tag(sheet, tag)
    schema, numbers, old = sheet
    return _sheet_of(dict(schema), numbers, {one: rules if one == tag else old[one] for one in old})


def _need_tag(sheet, tag):
    """Raises NoKind unless any object is a tag of a sheet."""
    if not is_name(tag) or tag not in sheet[2]:
        raise NoKind("what is passed is no tag of the sheet")


def _sheet_of(schema, numbers, rules):
    """Returns the sheet with a new schema and new rules; raises NoSheet."""
    sheet = (schema, dict(numbers), rules)
    if not is_sheet(sheet):
        raise NoSheet("what comes is no sheet")
    return sheet


def joined(one, other):
    """Returns (sheet, named): two sheets of one schema as one, and the new names of the second one's numbers."""
    need_sheet(one)
    need_sheet(other)
    schema, numbers, rules = one
    if list(schema.items()) != list(other[0].items()):
        raise Mismatch("two sheets can be joined if they have the same schema")
    named = {kind: _new_names(numbers[kind], names) for kind, names in other[1].items()}
    both = {kind: names + tuple(list(named[kind].values())) for kind, names in numbers.items()}
    found = {}
    for variants in schema.values():
        for tag, children in variants:
            below = [named[child] for child in children]
            found[tag] = rules[tag] + tuple([_renamed_rule(rule, below) for rule in other[2][tag]])
    return _sheet_of(dict(schema), both, found), named


def _new_names(taken, names):
    """Returns a dict from some names to those that they get beside names that are taken."""
    new = {}
    for name in names:
        used = list(taken) + list(names) + list(new.values())
        new[name] = name if name not in taken else _free_name(name, used)
    return new


def _free_name(name, used):
    """Returns a name with the least integer from 2 on behind it that is not among those in use."""
    number = 2
    while f"{name}{number}" in used:
        number += 1
    return f"{name}{number}"


def _renamed_rule(rule, below):
    """Returns a rule with other names, its terms in order, where below tells the new names child by child."""
    terms = [(tuple([(child, below[child][name]) for child, name in uses]), factor) for factor, uses in rule]
    return tuple([(factor, uses) for uses, factor in sorted(set(terms))])


def compared_equations(one, other, degree):
    """Returns a dict from the kinds, in order, to (kept, lost, gained): what becomes of the one's equations."""
    need_equations(one, degree)
    need_equations(other, degree)
    if list(one[1].items()) != list(other[1].items()):
        raise Mismatch("two sheets can be compared if they have the same kinds and numbers")
    finders = search(one, degree)
    others = search(other, degree)
    before = spaces_of(one, degree, finders)
    after = spaces_of(other, degree, others)
    found = {}
    for kind, space in before.items():
        kept = _kept_equations(space, finders[kind], others[kind])
        found[kind] = (kept, _lost(space, others[kind], one[1][kind]), rests_of(space, after[kind]))
    return found


def _kept_equations(space, finder, other):
    """Returns the space of the forms that are 0 at the trees of two finders, where a space is that of the first one."""
    span = Span(len(space.columns()))
    # What both have is sought at the rows, which have less digits than the forms.
    for row in finder.spans[0].rows + other.spans[0].rows:
        span.takes(row)
    return space_of_span(space.names, space.degree, span)


def _lost(space, finder, names):
    """Returns the list of pairs (form, tree) of those of a space's basis that are not 0 at some tree of a finder."""
    trees = [break_of(finder, names, form) for form in space.basis]
    return [(form, tree) for form, tree in zip(space.basis, trees) if tree is not None]


def least_filters(sheet, filters, kind, form):
    """Returns the list of the least choices of filters with which a claim holds, by length, then ascending."""
    _need_filters(sheet, filters, kind, form)
    breaks = _breaks_by_choice(sheet, filters, kind, form)
    holding = [choice for choice, tree in breaks.items() if tree is None]
    least = [choice for choice in holding if not any([_is_part(one, choice) for one in holding])]
    return [choice for _, choice in sorted(set([(len(choice), choice) for choice in least]))]


def cheapest_filters(sheet, filters, kind, form, prices):
    """Returns (choice, price, papers) of the first choice with which a claim holds, or the first tree that all
    filters let by and at which it does not."""
    _need_filters(sheet, filters, kind, form)
    if not isinstance(prices, tuple) or len(prices) != len(filters) or not all([_is_price(one) for one in prices]):
        raise NoPrice("prices are a tuple with an integer from 0 to 10 ^ 6 for each filter")
    breaks = _breaks_by_choice(sheet, filters, kind, form)
    papers = ()
    order = [(sum([prices[at] for at in choice]), len(choice), choice) for choice in breaks]
    for price, _, choice in sorted(set(order)):
        if breaks[choice] is None:
            return choice, price, papers
        papers = papers + ((choice, breaks[choice]),)
    return breaks[tuple(range(len(filters)))]


def _need_filters(sheet, filters, kind, form):
    """Raises what least_filters raises, up to NoForm."""
    need_sheet(sheet)
    if not isinstance(filters, tuple) or not all([is_filter(sheet[0], some) for some in filters]):
        raise NoFilter("what is passed is no tuple of filters of the sheet's schema")
    if len(filters) > _MOST_FILTERS:
        raise TooMany(_MOST_FILTERS)
    need_kind(sheet, kind)
    need_claim(sheet, kind, form)


def _is_price(thing):
    """Returns whether any object is a price."""
    return is_integer(thing) and 0 <= thing <= _MOST_PRICE


def _breaks_by_choice(sheet, filters, kind, form):
    """Returns a dict from all choices to the first trees that their filters let by and at which a claim is not 0."""
    runs = Runs(sheet[0], filters)
    finder = found_under(sheet, max(1, form.degree), runs)[kind]
    choices = [()]
    for at in range(len(filters)):
        choices = choices + [choice + (at,) for choice in choices]
    broken = all_broken(finder, sheet[1][kind], form)
    return {choice: _first_let_by(broken, runs.lets(choice, kind)) for choice in choices}


def _first_let_by(broken, lets):
    """Returns the first one of some pairs' trees whose situation is let by, or None."""
    for tree, situation in broken:
        if lets[situation]:
            return tree
    return None


def _is_part(choice, other):
    """Returns whether a choice is a smaller part of another one."""
    return len(choice) < len(other) and all([at in other for at in choice])
