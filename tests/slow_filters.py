"""Filters for the tests, and slow ways to work out by definition what the package returns about them."""

import itertools

from oracles import Rows, ordered, row, search_by, value


def counting(modulus, roots=(0,)):
    """A filter of ROW that counts the tags."""
    states = {f"s{n}": (("more", (f"s{(n - 1) % modulus}",)),) for n in range(modulus)}
    states["s1" if modulus > 1 else "s0"] += (("end", ()),)
    return states, tuple(f"s{n}" for n in roots)


def everything(schema):
    """A filter that lets each tree by."""
    return ({"any": tuple((tag, ("any",) * len(children)) for variants in schema.values() for tag, children in variants)}, ("any",))


def random_filter(source, schema, most_states=4, most_steps=12):
    """A filter, perhaps with several runs at a tree, without roots, or with states without steps."""
    names = source.sample(("a", "b", "c", "d", "top", "q1"), source.randint(1, most_states))
    tags = [variant for variants in schema.values() for variant in variants]
    states = {name: [] for name in names}
    for tag, children in tags:
        for _ in range(source.randint(0, 3)):
            if sum(map(len, states.values())) < most_steps:
                states[source.choice(names)].append((tag, tuple(source.choice(names) for _ in children)))
    return {name: tuple(steps) for name, steps in states.items()}, tuple(source.sample(names, source.randint(0, len(names))))


def runs(some, tree):
    """All runs of a filter at a tree, one by one: nested tuples (state, run of a part, ..)."""
    return [(state, *below) for below in itertools.product(*[runs(some, part) for part in tree[1:]])
            for state, steps in some[0].items() if (tree[0], tuple(run[0] for run in below)) in steps]


def states_by_runs(some, tree):
    return tuple(sorted({run[0] for run in runs(some, tree)}))


def states_by_parts(some, tree):
    """The same, for trees with too many runs."""
    below = [states_by_parts(some, part) for part in tree[1:]]
    return tuple(sorted({state for state, steps in some[0].items() for tag, names in steps
                         if tag == tree[0] and all(name in found for name, found in zip(names, below))}))


def lets(some, tree):
    return any(state in some[1] for state in states_by_parts(some, tree))


def search_under(sheet, filters, degree):
    """A dict from the kinds to the dicts from the situations to their first trees."""
    spans, found = {}, {kind: {} for kind in sheet[0]}

    def takes(kind, tree):
        situation = tuple(states_by_parts(some, tree) for some in filters)
        span = spans.setdefault((kind, situation), Rows())
        if not span.take(row(sheet[1][kind], degree, value(sheet, tree))):
            return False
        found[kind].setdefault(situation, []).append(tree)
        return True

    search_by(sheet, takes)
    return found


def first_of_those(sheet, kind, degree, trees):
    """The first trees among some trees of a kind, in order, by their rows alone."""
    span = Rows()
    return [tree for tree in ordered(sheet[0], kind, trees) if span.take(row(sheet[1][kind], degree, value(sheet, tree)))]


def slow_firsts(sheet, filters, degree):
    """A dict from the kinds to the first trees that all filters let by."""
    found = search_under(sheet, filters, degree)
    return {kind: first_of_those(sheet, kind, degree, [tree for some in lists.values() for tree in some
                                                       if all(lets(one, tree) for one in filters)])
            for kind, lists in found.items()}
