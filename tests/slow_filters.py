"""Filters for the tests, and slow ways to work out by definition what the package returns about them."""

import itertools

from oracles import Rows, ordered, row, value
from samples import size


def counting(modulus, roots=(0,)):
    """A filter of ROW that counts the tags."""
    states = {f"s{n}": (("more", (f"s{(n - 1) % modulus}",)),) for n in range(modulus)}
    states["s1" if modulus > 1 else "s0"] += (("end", ()),)
    return states, tuple(f"s{n}" for n in roots)


def everything(schema):
    """A filter that lets each tree by."""
    return ({"any": tuple((tag, ("any",) * len(children)) for variants in schema.values() for tag, children in variants)}, ("any",))


def random_filter(source, schema, most_states=4, most_steps=12):
    """A filter, perhaps with several runs at a tree, without roots, or with states without steps."""
    names = source.sample(("a", "b", "c", "d", "top", "q1"), source.randint(1, most_states))
    tags = [variant for variants in schema.values() for variant in variants]
    states = {name: [] for name in names}
    for tag, children in tags:
        for _ in range(source.randint(0, 3)):
            if sum(map(len, states.values())) < most_steps:
                states[source.choice(names)].append((tag, tuple(source.choice(names) for _ in children)))
    return {name: tuple(steps) for name, steps in states.items()}, tuple(source.sample(names, source.randint(0, len(names))))


def runs(some, tree):
    """All runs of a filter at a tree, one by one: nested tuples (state, run of a part, ..)."""
    return [(state, *below) for below in itertools.product(*[runs(some, part) for part in tree[1:]])
            for state, steps in some[0].items() if (tree[0], tuple(run[0] for run in below)) in steps]


def states_by_runs(some, tree):
    return tuple(sorted({run[0] for run in runs(some, tree)}))


def states_by_parts(some, tree):
    """The same, for trees with too many runs."""
    below = [states_by_parts(some, part) for part in tree[1:]]
    return tuple(sorted({state for state, steps in some[0].items() for tag, names in steps
                         if tag == tree[0] and all(name in found for name, found in zip(names, below))}))


def lets(some, tree):
    return any(state in some[1] for state in states_by_parts(some, tree))


def search_under(sheet, filters, degree):
    """A dict from the kinds to the dicts from the situations to their first trees, by trying all trees over these.

    No more is known of a tree than its parts; all situations that turn up are kept.
    """
    schema, numbers, _ = sheet
    found = {kind: {} for kind in schema}
    spans = {}
    for total in range(1, 202):
        below = {kind: [(tree, size(tree)) for some in lists.values() for tree in some] for kind, lists in found.items()}
        sizes = [1 + sum(max(part[1] for part in below[child]) for child in children)
                 for variants in schema.values() for _, children in variants if all(below[child] for child in children)]
        if total > max(sizes, default=0):
            return found
        for kind, variants in schema.items():
            new = [(tag, *[part for part, _ in parts]) for tag, children in variants
                   for parts in itertools.product(*[below[child] for child in children])
                   if 1 + sum(part[1] for part in parts) == total]
            for tree in ordered(schema, kind, new):
                situation = tuple(states_by_parts(some, tree) for some in filters)
                span = spans.setdefault((kind, situation), Rows())
                if span.take(row(numbers[kind], degree, value(sheet, tree))):
                    found[kind].setdefault(situation, []).append(tree)
    raise AssertionError("the oracle is for small first trees")


def first_of_those(sheet, kind, degree, trees):
    """The first trees among some trees of a kind, in order, by their rows alone."""
    span = Rows()
    return [tree for tree in ordered(sheet[0], kind, trees) if span.take(row(sheet[1][kind], degree, value(sheet, tree)))]


def slow_firsts(sheet, filters, degree):
    """A dict from the kinds to the first trees that all filters let by."""
    found = search_under(sheet, filters, degree)
    return {kind: first_of_those(sheet, kind, degree, [tree for some in lists.values() for tree in some
                                                       if all(lets(one, tree) for one in filters)])
            for kind, lists in found.items()}
