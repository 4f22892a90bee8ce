"""Schemas: dicts from kinds to tuples of variants (tag, children)."""

from treelaws.names import is_name

_MOST_KINDS = 6
_MOST_VARIANTS = 4
_MOST_CHILDREN = 3
_MOST_TAGS = 12


def is_schema(thing):
    """Returns whether any object is a schema."""
    if not isinstance(thing, dict) or not 1 <= len(thing) <= _MOST_KINDS:
        return False
    if not all([is_name(kind) for kind in thing]):
        return False
    if not all([_are_variants(thing, variants) for variants in thing.values()]):
        return False
    tags = tags_of(thing)
    return len(tags) <= _MOST_TAGS and len(set(tags)) == len(tags)


def _are_variants(kinds, thing):
    """Returns whether any object is a tuple of variants with children of some kinds."""
    if not isinstance(thing, tuple) or len(thing) > _MOST_VARIANTS:
        return False
    return all([_is_variant(kinds, variant) for variant in thing])


def _is_variant(kinds, thing):
    """Returns whether any object is a variant with children of some kinds."""
    if not isinstance(thing, tuple) or len(thing) != 2:
        return False
    tag, children = thing
    if not is_name(tag) or not isinstance(children, tuple) or len(children) > _MOST_CHILDREN:
        return False
    # Only a name is looked up: what is no name may be a list, which no dict takes as a key.
    return all([is_name(child) and child in kinds for child in children])


def tags_of(schema):
    """Returns the list of the tags, kind by kind, in order."""
    return [variant[0] for variants in schema.values() for variant in variants]


def kind_of(schema, tag):
    """Returns the kind whose variant has a tag, or None."""
    for kind, variants in schema.items():
        if tag in [variant[0] for variant in variants]:
            return kind
    return None


def children_of(schema, tag):
    """Returns the tuple of the children of the tag's variant, or None."""
    for variants in schema.values():
        for found, children in variants:
            if found == tag:
                return children
    return None


def empty_kinds(schema):
    """Returns the ascending list of the kinds without trees."""
    filled = _filled_kinds(schema)
    return sorted([kind for kind in schema if kind not in filled], key=str)


def kinds_within(schema, kind):
    """Returns the ascending list of the kinds of all parts of the trees of a kind."""
    filled = _filled_kinds(schema)
    if kind not in filled:
        return []
    within = {kind: True}
    ahead = [kind]
    while ahead:
        here = ahead.pop()
        for child in _kinds_below(schema[here], filled):
            if child not in within:
                within[child] = True
                ahead.append(child)
    return sorted(list(within), key=str)


def _filled_kinds(schema):
    """Returns a dict with the kinds that have trees as its keys."""
    filled = {}
    # A least tree has no kind twice on one way down, so as many rounds as kinds are enough.
    for _ in schema:
        for kind, variants in schema.items():
            if any([_all_in(variant[1], filled) for variant in variants]):
                filled[kind] = True
    return filled


def _kinds_below(variants, filled):
    """Returns the list of the children's kinds of those variants that some tree has."""
    return [child for variant in variants if _all_in(variant[1], filled) for child in variant[1]]


def _all_in(children, kinds):
    """Returns whether all children are of some kinds."""
    return all([child in kinds for child in children])
