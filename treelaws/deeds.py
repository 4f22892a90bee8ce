"""Deeds at a tree: what comes of them, or the errors by which they are refused."""

from treelaws.errors import NoPath, NoTree
from treelaws.needs import need_small
from treelaws.schemas import kind_of
from treelaws.trees import is_tree, part_at, put_at


def replaced(schema, tree, path, part):
    """Returns a tree with another part at a path; raises NoPath, NoTree, TooMany(200) (any objects)."""
    kind = kind_of(schema, part_at(tree, path)[0])
    if not is_tree(schema, kind, part):
        raise NoTree("what is passed is no tree of the part's kind")
    new = put_at(tree, path, part)
    need_small(new)
    return new


def exchanged(schema, tree, one, other):
    """Returns a tree with two parts exchanged; raises NoPath, NoTree, NoPath (any objects)."""
    first = part_at(tree, one)
    second = part_at(tree, other)
    if kind_of(schema, first[0]) != kind_of(schema, second[0]):
        raise NoTree("the two parts are of two kinds")
    if one[:len(other)] == other or other[:len(one)] == one:
        raise NoPath("one of the two parts is within the other one")
    # There are as many tags as before, so nothing needs to be refused for them.
    return put_at(put_at(tree, one, second), other, first)
