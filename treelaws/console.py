"""A console: lines that ask and change a ledger, and their answers."""

from treelaws.bends import distance, noticed_by
from treelaws.breaks import first_break
from treelaws.commands import command_of
from treelaws.equations import equations, first_trees
from treelaws.errors import InvalidCommand
from treelaws.ledger import Ledger
from treelaws.needs import need_kind
from treelaws.sheets import named_values
from treelaws.stored import stored
from treelaws.texts import format_sheet, format_tree, parse_form, parse_rule, parse_sheet, parse_tree
from treelaws.told import new_equations, told_by
from treelaws.trees import how_many

_NOTHING = "nothing"


class Console:
    """A ledger that is worked with by lines."""

    def __init__(self):
        self._ledger = Ledger(({"kind": (("tag", ()),)}, {"kind": ()}, {"tag": ()}))

    def execute(self, line):
        """Runs the command of a line and returns its answer; raises InvalidCommand, or what refuses the command."""
        word, values = command_of(line)
        if word == "open":
            self._ledger = Ledger(parse_sheet("\n".join(values[0].split(" | "))))
            return "ok"
        action = _ACTIONS[word]
        return action(self._ledger, values)


def _joined(words, between):
    """Returns some words with a text between them, or the word nothing."""
    return between.join(words) if words else _NOTHING


def _lines(rows):
    """Returns the answer with some lines."""
    return _joined(rows, "\n")


def _done(names):
    """Returns the answer to a deed that returned some names."""
    return " ".join(["ok"] + names)


def _tree_or_none(tree):
    """Returns the text of a tree, or the word none."""
    return "none" if tree is None else format_tree(tree)


def _told(worths):
    """Returns the answer with the values of some numbers."""
    return _joined([f"{name}={worth}" for name, worth in worths.items()], " ")


def _sheet(ledger, values):
    return format_sheet(ledger.sheet_now())


def _kept(ledger, values):
    return _lines([f"{name} {kind} : {str(form)}" for name, (kind, form) in ledger.kept().items()])


def _verdicts(ledger, values):
    return _lines([f"{name} : {_tree_or_none(tree)}" for name, tree in ledger.verdicts().items()])


def _papers(ledger, values):
    return _lines([f"{name} : {format_tree(tree)}" for name, tree in ledger.documents().items()])


def _mark(ledger, values):
    return str(ledger.mark())


def _equations(ledger, values):
    kind, degree = values
    sheet = ledger.sheet_now()
    found = equations(sheet, degree)
    need_kind(sheet, kind)
    return _lines([str(form) for form in found[kind].basis])


def _new(ledger, values):
    kind, degree = values
    return _lines([str(form) for form in new_equations(ledger.sheet_now(), kind, degree)])


def _first(ledger, values):
    kind, degree = values
    sheet = ledger.sheet_now()
    found = first_trees(sheet, degree)
    need_kind(sheet, kind)
    return _lines([format_tree(tree) for tree in found[kind]])


def _told_by(ledger, values):
    found = told_by(ledger.sheet_now(), values[0], values[1], tuple(values[2:]))
    if found is None:
        return "no"
    many, form = found
    return f"{many}*{values[1]} = {str(form)}"


def _stored(ledger, values):
    kind, prices = values[0], values[1:]
    sheet = ledger.sheet_now()
    numbers = sheet[1].get(kind, ())
    if len(prices) != len(numbers):
        raise InvalidCommand("there are not as many prices as numbers")
    price, names, _ = stored(sheet, kind, {name: one for name, one in zip(numbers, prices)})
    return " ".join([str(price)] + list(names))


def _distance(ledger, values):
    found = distance(ledger.sheet_now(), values[0])
    return "none" if found is None else str(found)


def _notice(ledger, values):
    form = noticed_by(ledger.sheet_now(), values[0], values[1], tuple(values[2:]))
    return "no" if form is None else str(form)


def _count(ledger, values):
    kind, size = values
    schema = ledger.sheet_now()[0]
    if kind not in schema:
        raise InvalidCommand("the sheet has no such kind")
    return str(how_many(schema, kind, size))


def _values(ledger, values):
    tree = parse_tree(values[0])
    ledger.need_tree(tree)
    return _told(named_values(ledger.sheet_now(), tree))


def _break(ledger, values):
    kind, text = values
    form = parse_form(text)
    return _tree_or_none(first_break(ledger.sheet_now(), kind, form))


def _keep(ledger, values):
    name, kind, text = values
    return _done(ledger.keep(name, kind, parse_form(text)))


def _forget(ledger, values):
    return _done(ledger.forget(values[0]))


def _rules_of(text):
    """Returns the tuple of the rules that a text tells."""
    if text == _NOTHING:
        return ()
    return tuple([parse_rule(one) for one in text.split("; ")])


def _add(ledger, values):
    rules = _rules_of(values[-1])
    return _done(ledger.add_variant(values[0], (values[1], tuple(values[2:-1])), rules))


def _cut(ledger, values):
    return _done(ledger.drop_variant(values[0]))


def _rules(ledger, values):
    tag, text = values
    return _done(ledger.set_rules(tag, _rules_of(text)))


def _put(ledger, values):
    name, kind, text = values
    return _done(ledger.put(name, kind, parse_tree(text)))


def _drop(ledger, values):
    return _done(ledger.drop(values[0]))


def _replace(ledger, values):
    name, path, text = values
    return _done(ledger.replace(name, path, parse_tree(text)))


def _exchange(ledger, values):
    name, one, other = values
    return _done(ledger.exchange(name, one, other))


def _bend(ledger, values):
    name, path, number, change = values
    return _done(ledger.bend(name, path, number, change))


def _back(ledger, values):
    return _done(ledger.back(values[0]))


def _look(ledger, values):
    name, path = values
    return _told(ledger.stored(name, path))


def _alarms(ledger, values):
    return _lines([f"{_path_text(path)} {name}" for path, name in ledger.alarms(values[0])])


def _path_text(path):
    """Returns the text of a path."""
    return ".".join([str(index) for index in path]) if path else "."


_ACTIONS = {
    "sheet": _sheet, "kept": _kept, "verdicts": _verdicts, "papers": _papers, "mark": _mark,
    "equations": _equations, "new": _new, "first": _first, "told": _told_by, "stored": _stored,
    "distance": _distance, "notice": _notice, "count": _count, "values": _values, "break": _break,
    "keep": _keep, "forget": _forget, "add": _add, "cut": _cut, "rules": _rules, "put": _put, "drop": _drop,
    "replace": _replace, "exchange": _exchange, "bend": _bend, "back": _back, "look": _look, "alarms": _alarms,
}
