"""Schemas and objects for the tests, and slow ways to work out by definition what the package returns."""

import functools
import itertools
import random

BINARY = {"tree": (("leaf", ()), ("join", ("tree", "tree")))}
ROW = {"row": (("end", ()), ("more", ("row",)))}
LATE_LEAF = {"tree": (("join", ("tree", "tree")), ("wrap", ("tree",)), ("leaf", ()))}
TERNARY = {"tree": (("leaf", ()), ("fork", ("tree", "tree", "tree")))}
ROSE = {"tree": (("node", ("list",)),), "list": (("nil", ()), ("cons", ("tree", "list")))}
PARTLY = {
    "b": (("stuck", ("b",)), ("lost", ("c", "none"))),
    "a": (("deep", ("a", "b")), ("top", ("c",)), ("bare", ())),
    "none": (),
    "c": (("unit", ()),),
}
WIDE = {
    "x": (("a1", ("y", "x", "x")), ("a2", ("x", "y")), ("a3", ()), ("a4", ("y",))),
    "y": (("b1", ("x",)), ("b2", ("z", "z", "z")), ("b3", ("y",)), ("b4", ())),
    "z": (("c1", ()), ("c2", ()), ("c3", ("x", "y", "z")), ("c4", ("z",))),
}
CHAIN = {f"k{n}": ((f"t{n}", (f"k{n + 1}",) * 3),) for n in range(1, 6)} | {"k6": (("t6", ()),)}
BACK = {
    "k6": (("t6", ("k5",)),), "k5": (("t5", ("k4",)),), "k4": (("t4", ("k3",)),),
    "k3": (("t3", ("k2",)),), "k2": (("t2", ("k1",)),), "k1": (("t1", ()), ("again", ("k6",))),
}
SCHEMAS = (BINARY, ROW, LATE_LEAF, TERNARY, ROSE, PARTLY, WIDE, CHAIN, BACK)


def nested(depth, outer):
    """An object that is nested so deeply."""
    thing = None
    for _ in range(depth):
        thing = outer(thing)
    return thing


# None of these is a name, a tag, a kind, a tuple of variants, a variant, a tree or a path's index below any length.
ALIENS = (
    None, True, False, -1, 10 ** 30, "", "Leaf", "two words", "a" * 9, "1a", "a_b", "a" * 10000, "\n",
    [], ["leaf"], {}, {"leaf": [()]}, {1: "leaf"}, (None,), (("leaf",),), (True, False), [[]],
    nested(200, lambda thing: (thing,)), nested(200, lambda thing: [thing]), nested(200, lambda thing: {"a": thing}),
)


def random_schema(source):
    """A schema of one to four kinds, some of them perhaps empty."""
    kinds = [f"k{n}" for n in range(source.randint(1, 4))]
    source.shuffle(kinds)
    schema, tags = {}, 0
    for kind in kinds:
        variants = []
        for _ in range(source.randint(0, min(4, 12 - tags))):
            tags += 1
            variants.append((f"t{tags}", tuple(source.choice(kinds) for _ in range(source.choice((0, 0, 1, 2, 3))))))
        schema[kind] = tuple(variants)
    return schema


def random_schemas(many, seed):
    source = random.Random(seed)
    return [random_schema(source) for _ in range(many)]


def all_of_size(schema, most):
    """A dict from the kinds to lists with the list of all their trees of 0, 1, .., most tags, in any order."""
    found = {kind: [[]] for kind in schema}
    for total in range(1, most + 1):
        for kind, variants in schema.items():
            found[kind].append([
                (tag, *parts)
                for tag, children in variants
                for sizes in itertools.product(range(total), repeat=len(children)) if sum(sizes) == total - 1
                for parts in itertools.product(*[found[child][size] for child, size in zip(children, sizes)])])
    return found


def all_up_to(schema, most):
    """A dict from the kinds to the sets of all their trees of at most so many tags."""
    return {kind: {tree for some in lists for tree in some} for kind, lists in all_of_size(schema, most).items()}


def has_tree(schema, kind, above=()):
    """Whether a kind has a tree: if so, it has one with no kind twice on one way down."""
    return kind not in above and any(
        all(has_tree(schema, child, above + (kind,)) for child in children) for _, children in schema[kind])


def kinds_in_trees(schema, kind, found=()):
    """The set of the kinds of all parts of the trees of a kind, found among them."""
    if kind in found or not has_tree(schema, kind):
        return set(found)
    found = {*found, kind}
    for _, children in schema[kind]:
        if all(has_tree(schema, child) for child in children):
            for child in children:
                found = kinds_in_trees(schema, child, found)
    return found


def size(tree):
    return 1 + sum(size(part) for part in tree[1:])


def compare(schema, kind, one, other):
    """Below, at or above 0, as point 4 orders two trees of a kind."""
    if size(one) != size(other):
        return size(one) - size(other)
    variants = schema[kind]
    tags = [tag for tag, _ in variants]
    if one[0] != other[0]:
        return tags.index(one[0]) - tags.index(other[0])
    for child, part, against in zip(dict(variants)[one[0]], one[1:], other[1:]):
        order = compare(schema, child, part, against)
        if order:
            return order
    return 0


def ordered(schema, kind, some):
    """Different trees of a kind in order."""
    return sorted(some, key=functools.cmp_to_key(lambda one, other: compare(schema, kind, one, other)))


def paths_of(tree):
    return [()] + [(index, *path) for index, part in enumerate(tree[1:]) for path in paths_of(part)]


def comb(tags):
    """A tree of BINARY with an odd number of tags, as deep as can be."""
    tree = ("leaf",)
    for _ in range(tags // 2):
        tree = ("join", tree, ("leaf",))
    return tree


def row(tags):
    """The tree of ROW with so many tags."""
    tree = ("end",)
    for _ in range(tags - 1):
        tree = ("more", tree)
    return tree


def changed_everywhere(thing, others):
    """All objects that come from a tuple or dict if one object in it, or itself, becomes one of others(object)."""
    yield from others(thing)
    if isinstance(thing, tuple):
        for index, item in enumerate(thing):
            for other in changed_everywhere(item, others):
                yield thing[:index] + (other,) + thing[index + 1:]
    if isinstance(thing, dict):
        for key, item in thing.items():
            for other in changed_everywhere(item, others):
                yield {**thing, key: other}


def with_aliens(thing):
    return changed_everywhere(thing, lambda _: ALIENS)


def with_lists(thing):
    """The same object, with a list at the place of one of its tuples."""
    return changed_everywhere(thing, lambda item: [list(item)] if isinstance(item, tuple) else [])
