"""Filters: which trees they let by, and which equations hold under them."""

from treelaws.equations import space_of_span, spaces_of
from treelaws.errors import NoFilter, NoSchema
from treelaws.names import are_names, is_name
from treelaws.needs import need_degree, need_few, need_sheet
from treelaws.products import how_many_products
from treelaws.runs import Runs, states_of
from treelaws.schemas import children_of, is_schema, tags_of
from treelaws.search import search, search_runs
from treelaws.spaces import Space
from treelaws.spans import Span

_MOST_STATES = 6
_MOST_STEPS = 24


def is_filter(schema, thing):
    """Returns whether any object is a filter of a schema."""
    if not is_schema(schema) or not isinstance(thing, tuple) or len(thing) != 2:
        return False
    states, roots = thing
    if not isinstance(states, dict) or not 1 <= len(states) <= _MOST_STATES:
        return False
    if not all([is_name(name) for name in states]):
        return False
    if not all([_are_steps(schema, states, steps) for steps in states.values()]):
        return False
    if sum([len(steps) for steps in states.values()]) > _MOST_STEPS:
        return False
    return are_names(roots) and all([root in states for root in roots])


def _are_steps(schema, states, thing):
    """Returns whether any object is a tuple of steps."""
    return isinstance(thing, tuple) and all([_is_step(schema, states, step) for step in thing])


def _is_step(schema, states, thing):
    """Returns whether any object is a step: a pair of a tag and a tuple with a state for each of its children."""
    if not isinstance(thing, tuple) or len(thing) != 2:
        return False
    tag, some = thing
    if tag not in tags_of(schema) or not isinstance(some, tuple):
        return False
    return len(some) == len(children_of(schema, tag)) and all([is_name(name) and name in states for name in some])


def states_at(schema, some, tree):
    """Returns the ascending tuple of the states to which runs of a filter at a tree lead."""
    _need_filters(schema, (some,))
    return states_of(some[0], tree)


def lets_by(schema, some, tree):
    """Returns whether a filter lets a tree by."""
    _need_filters(schema, (some,))
    return any([state in some[1] for state in states_of(some[0], tree)])


def lacking(schema, one, other):
    """Returns a dict from the kinds, in order, to the first trees that one filter lets by and another one does not."""
    _need_filters(schema, (one, other))
    bare = (schema, {kind: () for kind in schema}, {tag: () for tag in tags_of(schema)})
    runs = Runs(schema, (one, other))
    finders = found_under(bare, 1, runs)
    return {kind: _first_lacking(finder, runs.lets((0,), kind), runs.lets((1,), kind))
            for kind, finder in finders.items()}


def _first_lacking(finder, lets, others):
    """Returns the first tree in a situation that is told by the one list, but not by the other one, or None."""
    for tree, situation in zip(finder.firsts, finder.situations):
        if lets[situation] and not others[situation]:
            return tree
    return None


def _need_filters(schema, filters):
    """Raises NoSchema, then NoFilter unless any objects are filters of a schema."""
    if not is_schema(schema):
        raise NoSchema("what is passed is no schema")
    if not all([is_filter(schema, some) for some in filters]):
        raise NoFilter("what is passed is no filter of the schema")


def found_under(sheet, degree, runs):
    """Returns a dict from the kinds, in order, to finders with the first trees of each situation.

    Raises TooMany(4000), then TooMany(200).
    """
    need_few(sheet[0], {kind: how_many_products(len(names), degree) * len(runs.situations[kind])
                        for kind, names in sheet[1].items()})
    return search_runs(sheet, degree, runs)


def first_under(sheet, some, degree):
    """Returns a dict from the kinds, in order, to the tuples of their first trees under a filter."""
    runs = _need_runs(sheet, some, degree)
    return {kind: _firsts_under(sheet[1][kind], degree, finder, runs.lets((0,), kind))[0]
            for kind, finder in found_under(sheet, degree, runs).items()}


def equations_under(sheet, some, degree):
    """Returns a dict from the kinds, in order, to the spaces of the equations under a filter."""
    runs = _need_runs(sheet, some, degree)
    return _spaces_under(sheet, degree, runs, found_under(sheet, degree, runs))


def added_equations(sheet, some, degree):
    """Returns a dict from the kinds, in order, to the spaces of what a filter adds to the equations."""
    runs = _need_runs(sheet, some, degree)
    under = _spaces_under(sheet, degree, runs, found_under(sheet, degree, runs))
    without = spaces_of(sheet, degree, search(sheet, degree))
    return {kind: rests_of(without[kind], space) for kind, space in under.items()}


def rests_of(space, other):
    """Returns the space of the rests, by a space, of the basis of another one of the same names and degree."""
    return Space(space.names, space.degree, [space.rest(form)[1] for form in other.basis])


def _need_runs(sheet, some, degree):
    """Returns the runs of any object as a filter; raises what it raises for any sheet and degree, up to TooMany(40)."""
    need_sheet(sheet)
    need_degree(degree)
    if not is_filter(sheet[0], some):
        raise NoFilter("what is passed is no filter of the sheet's schema")
    return Runs(sheet[0], (some,))


def _firsts_under(names, degree, finder, lets):
    """Returns the tuple of the first trees among those in some situations, and the span of their rows."""
    span = Span(how_many_products(len(names), degree))
    firsts = []
    for tree, told, situation in zip(finder.firsts, finder.told, finder.situations):
        if lets[situation] and span.takes(finder.row(told)):
            firsts.append(tree)
    return tuple(firsts), span


def _spaces_under(sheet, degree, runs, finders):
    """Returns a dict from the kinds, in order, to the spaces of the equations under the filter of some runs."""
    found = {}
    for kind, finder in finders.items():
        names = sheet[1][kind]
        span = _firsts_under(names, degree, finder, runs.lets((0,), kind))[1]
        found[kind] = space_of_span(names, degree, span)
    return found
