"""Names: of kinds, tags, numbers and whatever else is called something."""

_LETTERS = "abcdefghijklmnopqrstuvwxyz"
_DIGITS = "0123456789"
_LONGEST = 8


def is_name(thing):
    """Returns whether any object is a name."""
    if not isinstance(thing, str) or not 1 <= len(thing) <= _LONGEST:
        return False
    return thing[0] in _LETTERS and all([sign in _LETTERS + _DIGITS for sign in thing])


def are_names(thing):
    """Returns whether any object is a tuple of different names."""
    if not isinstance(thing, tuple) or not all([is_name(name) for name in thing]):
        return False
    return len(set(thing)) == len(thing)
