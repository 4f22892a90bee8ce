"""The lines of a console, read: the command's word, and what stands behind it."""

from treelaws.errors import InvalidCommand

_MOST = 1000000
_MOST_SIZE = 40
_DIGITS = "0123456789"

# Each command: the words that it has (w any word, d an integer from 0 on, s a size, n any integer, p a path), those
# that may follow as often as one likes, and whether a text comes behind them.
_SHAPES = {
    "open": ("", "", True),
    "sheet": ("", "", False),
    "kept": ("", "", False),
    "verdicts": ("", "", False),
    "papers": ("", "", False),
    "mark": ("", "", False),
    "equations": ("wd", "", False),
    "new": ("wd", "", False),
    "first": ("wd", "", False),
    "told": ("ww", "w", False),
    "stored": ("w", "d", False),
    "distance": ("w", "", False),
    "notice": ("wd", "n", False),
    "count": ("ws", "", False),
    "values": ("", "", True),
    "break": ("w", "", True),
    "keep": ("ww", "", True),
    "forget": ("w", "", False),
    "add": ("ww", "w", True),
    "cut": ("w", "", False),
    "rules": ("w", "", True),
    "put": ("ww", "", True),
    "drop": ("w", "", False),
    "replace": ("wp", "", True),
    "exchange": ("wpp", "", False),
    "bend": ("wpwn", "", False),
    "back": ("n", "", False),
    "look": ("wp", "", False),
    "alarms": ("w", "", False),
}


def command_of(line):
    """Returns (word, values) of a line: the values of its other words, its text last; raises InvalidCommand."""
    word = line.split(" ")[0]
    if word not in _SHAPES:
        raise InvalidCommand("there is no such command")
    plain, more, has_text = _SHAPES[word]
    ahead, mark, text = line.partition(" : ") if has_text else (line, " : ", "")
    words = ahead.split(" ")[1:]
    if not mark or len(words) < len(plain) or len(words) > len(plain) and not more:
        raise InvalidCommand("the command has other words")
    kinds = plain + more * (len(words) - len(plain))
    values = [_value_of(kind, one) for kind, one in zip(kinds, words)]
    if None in values:
        raise InvalidCommand("a word of the command is none")
    return word, (values + [text] if has_text else values)


def _value_of(kind, word):
    """Returns the value of a word of some kind, or None if it is none."""
    if kind == "p":
        return _path_of(word)
    if kind == "w":
        return word if word else None
    number = _integer_of(word)
    if number is None or kind == "s" and number > _MOST_SIZE or kind != "n" and number < 0:
        return None
    return number


def _path_of(word):
    """Returns the path that a word tells, or None."""
    if word == ".":
        return ()
    indexes = [_integer_of(one) for one in word.split(".")]
    if any([index is None or index < 0 for index in indexes]):
        return None
    return tuple(indexes)


def _integer_of(word):
    """Returns the integer from -10 ^ 6 to 10 ^ 6 that a word tells without leading zeros, or None."""
    digits = word[1:] if word.startswith("-") else word
    if not digits or len(digits) > len(str(_MOST)) or not all([sign in _DIGITS for sign in digits]):
        return None
    number = int(word)
    return number if abs(number) <= _MOST and str(number) == word else None
