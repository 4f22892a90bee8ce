"""Trees: tuples (tag, part, .., part); their paths, their order, and all of them."""

from treelaws.errors import NoPath
from treelaws.integers import is_integer


def is_tree(schema, kind, thing):
    """Returns whether any object is a tree of a kind, with any number of tags."""
    # No function here calls itself part by part: trees may be deeper than calls should be.
    ahead = [(kind, thing)]
    while ahead:
        wanted, part = ahead.pop()
        children = _children_at(schema[wanted], part)
        if children is None:
            return False
        ahead.extend(list(zip(children, part[1:])))
    return True


def _children_at(variants, thing):
    """Returns the children of the variant that fits the top of any object, or None."""
    if not isinstance(thing, tuple) or not thing:
        return None
    for tag, children in variants:
        if tag == thing[0] and len(children) == len(thing) - 1:
            return children
    return None


def size_of(tree):
    """Returns the number of the tags of a tree."""
    return len(parts_of(tree))


def parts_of(tree):
    """Returns the list of all parts, each ahead of its own parts, from the left."""
    parts = []
    ahead = [tree]
    while ahead:
        part = ahead.pop()
        parts.append(part)
        ahead.extend(part[:0:-1])
    return parts


def paths(tree):
    """Returns the list of the paths of all parts, each ahead of the paths into it."""
    found = []
    ahead = [((), tree)]
    while ahead:
        path, part = ahead.pop()
        found.append(path)
        for index in reversed(range(len(part) - 1)):
            ahead.append((path + (index,), part[index + 1]))
    return found


def is_path(tree, thing):
    """Returns whether any object is a path of a tree."""
    return _parts_along(tree, thing) is not None


def part_at(tree, path):
    """Returns the part at a path; raises NoPath."""
    along = _parts_along(tree, path)
    if along is None:
        raise NoPath("the tree has no such path")
    return along[-1]


def put_at(tree, path, part):
    """Returns the tree with another part at a path; raises NoPath."""
    along = _parts_along(tree, path)
    if along is None:
        raise NoPath("the tree has no such path")
    changed = part
    for index, old in reversed(list(zip(path, along))):
        changed = old[:index + 1] + (changed,) + old[index + 2:]
    return changed


def _parts_along(tree, thing):
    """Returns the list of the parts from the tree itself to the one at a path, or None if any object is no path."""
    if not isinstance(thing, tuple):
        return None
    along = [tree]
    for index in thing:
        part = along[-1]
        if not is_integer(index) or not 0 <= index < len(part) - 1:
            return None
        along.append(part[index + 1])
    return along


def in_order(schema, some):
    """Returns the list of some trees of one kind in order, without duplicates."""
    places = {variant[0]: place for variants in schema.values() for place, variant in enumerate(variants)}
    found = []
    last = None
    for key, index in sorted(set([(_order_key(places, tree), index) for index, tree in enumerate(some)])):
        if key != last:
            found.append(some[index])
        last = key
    return found


def _order_key(places, tree):
    """Returns the flat tuple of the size and the variant's place of all parts of a tree.

    Two trees with the same numbers so far have the same variants so far, so that the first
    place where their tuples differ is about the first parts at which the trees do.
    """
    key = []
    parts = parts_of(tree)
    for part, size in zip(parts, _sizes_of(parts)):
        key.append(size)
        key.append(places[part[0]])
    return tuple(key)


def _sizes_of(parts):
    """Returns the list of the sizes of the parts that parts_of returns."""
    sizes = []
    below = []
    for part in parts[::-1]:
        size = 1 + sum([below.pop() for _ in part[1:]])
        below.append(size)
        sizes.append(size)
    return sizes[::-1]


def how_many(schema, kind, size):
    """Returns how many trees of a size a kind has."""
    return _ways(schema, size)[(kind,)][size]


def trees(schema, kind, size):
    """Generates all trees of a kind with a size, in order."""
    # The caller may change the schema between two trees: the one of the start counts.
    own = dict(schema)
    kinds = (kind,)
    ways = _ways(own, size)
    if ways[kinds][size]:
        for row in _rows_of(own, ways, kinds, size):
            yield row[0]


def _ways(schema, size):
    """Returns a dict from tuples of kinds to lists of numbers.

    They tell in how many ways trees of these kinds, one for each, have 0, 1, .., size tags in all.
    """
    needed = _kinds_needed(schema)
    ways = {kinds: [0] for kinds in needed}
    ways[()] = [1] + [0] * size
    for total in range(1, size + 1):
        for kinds in needed:
            ways[kinds].append(_ways_at(schema, ways, kinds, total))
    return ways


def _kinds_needed(schema):
    """Returns the list of each kind alone and of the ends of the children of each variant."""
    needed = {(kind,): True for kind in schema}
    for variants in schema.values():
        for _, children in variants:
            for start in range(len(children)):
                needed[children[start:]] = True
    return list(needed)


def _ways_at(schema, ways, kinds, total):
    """Returns in how many ways trees of some kinds have a total of tags, from the lesser totals."""
    if len(kinds) == 1:
        return sum([ways[variant[1]][total - 1] for variant in schema[kinds[0]]])
    first = ways[kinds[:1]]
    rest = ways[kinds[1:]]
    return sum([first[size] * rest[total - size] for size in range(1, total)])


def _rows_of(schema, ways, kinds, total):
    """Generates all tuples of trees of some kinds, one for each, with a total of tags, in order.

    There must be such a tuple. Sizes without one are skipped, so that no search goes astray.
    """
    first = kinds[:1]
    rest = kinds[1:]
    if not kinds:
        yield ()
    elif not rest:
        left = total - 1
        for tag, children in schema[kinds[0]]:
            if ways[children][left]:
                for parts in _rows_of(schema, ways, children, left):
                    yield ((tag,) + parts,)
    else:
        for size in range(1, total):
            left = total - size
            if ways[first][size] and ways[rest][left]:
                for one in _rows_of(schema, ways, first, size):
                    for others in _rows_of(schema, ways, rest, left):
                        yield one + others


def least_tree(schema, kind):
    """Returns the first tree of a kind, or None."""
    found = {}
    # A least tree has no kind twice on one way down, so as many rounds as kinds are enough.
    for _ in schema:
        found = _least_above(schema, found)
    return found[kind][1] if kind in found else None


def _least_above(schema, found):
    """Returns a dict from kinds to (size, tree) of their first trees over those found before."""
    above = {}
    for kind, variants in schema.items():
        least = _least_over(variants, found)
        if least is not None:
            above[kind] = least
    return above


def _least_over(variants, found):
    """Returns (size, tree) of the first tree of some variants over those found before, or None."""
    least = None
    for tag, children in variants:
        if all([child in found for child in children]):
            size = 1 + sum([found[child][0] for child in children])
            if least is None or size < least[0]:
                least = (size, (tag,) + tuple([found[child][1] for child in children]))
    return least
