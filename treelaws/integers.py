"""Integers, as the document means them."""


def is_integer(thing):
    """Returns whether any object is an integer: an int that is not a bool."""
    return isinstance(thing, int) and not isinstance(thing, bool)
