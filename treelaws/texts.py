"""Texts of trees, forms, rules and sheets: read, and written in one canonical way."""

from treelaws.errors import NoSheet, SyntaxProblem
from treelaws.forms import Form, text_of_terms
from treelaws.sheets import is_sheet
from treelaws.tokens import Reader

_MOST_TAGS = 200
_MOST_PARTS = 3
_MOST_NAMES = 12
_INDEXES = ("0", "1", "2")


def parse_tree(text):
    """Returns the tree that a text tells; raises SyntaxProblem."""
    return _read_whole(text, _read_tree)


def parse_form(text):
    """Returns the form that a text tells; raises SyntaxProblem."""
    return _read_whole(text, _read_form)


def parse_rule(text):
    """Returns the rule that a text tells; raises SyntaxProblem."""
    return _read_whole(text, _read_rule)


def _read_whole(text, read):
    """Returns what a function reads in a text; raises SyntaxProblem, also if it does not read to the end."""
    reader = Reader(text, 1)
    told = read(reader)
    reader.need_end()
    return told


def _read_tree(reader):
    """Reads a tree."""
    # From the whole tree inwards: the tag and the parts so far of each tree with a part that is still to come.
    outer = []
    tags = 0
    while True:
        done = (reader.take_name(),)
        tags += 1
        if reader.word == "(" and tags < _MOST_TAGS:
            outer.append(done)
        else:
            while outer and not _goes_on(reader, outer[-1], tags):
                reader.take(")")
                done = outer.pop() + (done,)
            if not outer:
                return done
            outer[-1] = outer[-1] + (done,)
        reader.step()


def _goes_on(reader, parts, tags):
    """Returns whether another part comes behind a tag, some parts and the one that was just read."""
    return reader.word == "," and tags < _MOST_TAGS and len(parts) < _MOST_PARTS


def _read_form(reader):
    """Reads a form."""
    return Form(_read_sum(reader, False))


def _read_rule(reader):
    """Reads a rule, its like terms added up and in order."""
    factors = {}
    for factor, uses in _read_sum(reader, True):
        ascending = tuple(sorted(set(uses)))
        factors[ascending] = factors.get(ascending, 0) + factor
    left = [uses for uses, factor in factors.items() if factor]
    return tuple([(factors[uses], uses) for uses in sorted(set(left))])


def _read_sum(reader, is_rule):
    """Reads a sum of terms; returns the list of pairs (factor, names), or (factor, uses) in a rule."""
    terms = []
    sign = 1
    if reader.word == "-":
        reader.step()
        sign = -1
    while True:
        factor, names = _read_uses(reader) if is_rule else _read_names(reader)
        terms.append((sign * factor, names))
        if reader.word not in ("+", "-"):
            return terms
        sign = 1 if reader.word == "+" else -1
        reader.step()


def _read_names(reader):
    """Reads a term of a form; returns (factor, names)."""
    factor, names = 1, ()
    while True:
        if reader.is_integer_next():
            factor = factor * _taken_integer(reader)
        elif len(names) < _MOST_NAMES:
            names = names + (reader.take_name(),)
        else:
            reader.refuse()
        if reader.word != "*":
            return factor, names
        reader.step()


def _read_uses(reader):
    """Reads a term of a rule; returns (factor, uses)."""
    factor, uses = 1, ()
    while True:
        if not reader.is_integer_next():
            reader.refuse()
        index = reader.word
        number = _taken_integer(reader)
        if reader.word == "." and index in _INDEXES and number not in [child for child, _ in uses]:
            reader.step()
            uses = uses + ((number, reader.take_name()),)
        else:
            factor = factor * number
        if reader.word != "*":
            return factor, uses
        reader.step()


def _taken_integer(reader):
    """Goes on behind an integer, and returns it."""
    number = int(reader.word)
    reader.step()
    return number


class SheetLines:
    """What the lines of a sheet's text told so far."""

    def __init__(self):
        self.schema = {}
        self.numbers = {}
        self.rules = {}
        self._kind = ""
        self._tag = ""
        # The numbers whose rules are still due, in order.
        self.due = ()

    def read(self, reader):
        """Reads a line that has tokens."""
        if self.due:
            self._read_due(reader)
        elif reader.word == "kind" and reader.word_behind() != "=":
            self._read_kind(reader)
        elif reader.word == "tag" and reader.word_behind() != "=" and self.schema:
            self._read_variant(reader)
        else:
            reader.refuse()
        reader.need_end()

    def _read_due(self, reader):
        reader.take(self.due[0])
        reader.take("=")
        self.rules[self._tag] = self.rules[self._tag] + (_read_rule(reader),)
        self.due = self.due[1:]

    def _read_kind(self, reader):
        reader.step()
        if reader.word in self.schema:
            reader.refuse()
        self._kind = reader.take_name()
        self.schema[self._kind] = ()
        self.numbers[self._kind] = reader.take_names()

    def _read_variant(self, reader):
        reader.step()
        if reader.word in self.rules:
            reader.refuse()
        self._tag = reader.take_name()
        self.schema[self._kind] = self.schema[self._kind] + ((self._tag, reader.take_names()),)
        self.rules[self._tag] = ()
        self.due = self.numbers[self._kind]


def parse_sheet(text):
    """Returns the sheet that a text tells; raises SyntaxProblem, then NoSheet."""
    lines = text.split("\n")
    told = SheetLines()
    for place, line in enumerate(lines):
        # Tokens are read line by line: a problem in an earlier line comes ahead of what is no token in a later one.
        reader = Reader(line, place + 1)
        if reader.word:
            told.read(reader)
    if told.due:
        raise SyntaxProblem(len(lines), len(lines[-1]) + 1)
    sheet = (told.schema, told.numbers, told.rules)
    if not is_sheet(sheet):
        raise NoSheet("what the text tells is no sheet")
    return sheet


def format_tree(tree):
    """Returns the canonical text of a tree."""
    found = []
    # Trees and texts that are still to be written, the next one last.
    ahead = [tree]
    while ahead:
        one = ahead.pop()
        if isinstance(one, str):
            found.append(one)
        else:
            found.append(one[0])
            for index in reversed(range(1, len(one))):
                ahead.append(")" if index == len(one) - 1 else ", ")
                ahead.append(one[index])
            if len(one) > 1:
                ahead.append("(")
    return "".join(found)


def format_rule(rule):
    """Returns the canonical text of a rule."""
    return text_of_terms([(factor, [f"{child}.{name}" for child, name in uses]) for factor, uses in rule])


def format_sheet(sheet):
    """Returns the canonical text of a sheet."""
    schema, numbers, rules = sheet
    lines = []
    for kind, variants in schema.items():
        lines.append(" ".join(["kind", kind] + list(numbers[kind])))
        for tag, children in variants:
            lines.append(" ".join(["tag", tag] + list(children)))
            lines.extend([f"{name} = {format_rule(rule)}" for name, rule in zip(numbers[kind], rules[tag])])
    return "\n".join(lines)
