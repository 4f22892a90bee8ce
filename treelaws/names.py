"""Names: of kinds, tags, numbers and whatever else is called something."""

_LETTERS = "abcdefghijklmnopqrstuvwxyz"
_DIGITS = "0123456789"
_LONGEST = 8


def is_name(thing):
    """Returns whether any object is a name."""
    if not isinstance(thing, str) or not 1 <= len(thing) <= _LONGEST:
        return False
    return thing[0] in _LETTERS and all([sign in _LETTERS + _DIGITS for sign in thing])
