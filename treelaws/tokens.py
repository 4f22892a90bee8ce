"""Tokens of texts, and a reader that goes from one to the next."""

from treelaws.errors import SyntaxProblem
from treelaws.names import is_name

_LETTERS = "abcdefghijklmnopqrstuvwxyz"
_DIGITS = "0123456789"
_SIGNS = "(),+-*.=:"
_BLANKS = " \t"
_MOST_DIGITS = 40


class Reader:
    """The tokens of one line, read one after the other. word is the present one, empty behind the last one."""

    def __init__(self, text, line):
        self.line = line
        self._tokens = _tokens_of(text, line)
        self._at = 0
        self._end = len(text) + 1
        self.word = ""
        self._set_word()

    def _set_word(self):
        self.word = self._tokens[self._at][0] if self._at < len(self._tokens) else ""

    def step(self):
        """Goes on to the next token."""
        self._at = self._at + 1
        self._set_word()

    def word_behind(self):
        """Returns the token behind the present one, or an empty string."""
        return self._tokens[self._at + 1][0] if self._at + 1 < len(self._tokens) else ""

    def refuse(self):
        """Raises SyntaxProblem at the present token."""
        column = self._tokens[self._at][1] if self._at < len(self._tokens) else self._end
        raise SyntaxProblem(self.line, column)

    def take(self, word):
        """Goes on if the present token is a certain one; raises SyntaxProblem otherwise."""
        if self.word != word:
            self.refuse()
        self.step()

    def take_name(self):
        """Goes on if the present token is a name, and returns it; raises SyntaxProblem otherwise."""
        name = self.word
        if not is_name(name):
            self.refuse()
        self.step()
        return name

    def take_names(self):
        """Goes on to the first token that is no name; returns the tuple of the names."""
        names = ()
        while is_name(self.word):
            names = names + (self.word,)
            self.step()
        return names

    def is_integer_next(self):
        """Returns whether the present token is an integer."""
        return self.word != "" and self.word[0] in _DIGITS

    def need_end(self):
        """Raises SyntaxProblem if there is a token left."""
        if self.word:
            self.refuse()


def _tokens_of(text, line):
    """Returns the list of the tokens of a line, each with its column; raises SyntaxProblem."""
    found = []
    at = 0
    while at < len(text):
        if text[at] in _BLANKS:
            at += 1
        else:
            word = _word_at(text, at)
            if not _is_token(word):
                raise SyntaxProblem(line, at + 1)
            found.append((word, at + 1))
            at = at + len(word)
    return found


def _word_at(text, start):
    """Returns the run of letters and digits, or of digits alone, at a place; any other character by itself."""
    if text[start] not in _LETTERS + _DIGITS:
        return text[start]
    signs = _DIGITS if text[start] in _DIGITS else _LETTERS + _DIGITS
    end = start
    while end < len(text) and text[end] in signs:
        end += 1
    return text[start:end]


def _is_token(word):
    """Returns whether what stands in a text is a token."""
    if word[0] in _DIGITS:
        return len(word) <= _MOST_DIGITS and (word == "0" or word[0] != "0")
    return word in _SIGNS or is_name(word)
