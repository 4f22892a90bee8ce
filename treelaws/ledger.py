"""Ledgers: a sheet, forms that are kept, and documents, with deeds that are noted."""

from treelaws.breaks import breaks_of, first_break
from treelaws.changes import with_rules, with_variant, without_variant
from treelaws.deeds import exchanged, replaced
from treelaws.errors import Mismatch, NameTaken, NoMark, NoName, NoNumber, NoTree, TooMany
from treelaws.forms import Form
from treelaws.integers import is_integer
from treelaws.names import is_name
from treelaws.needs import need_kind, need_number, need_sheet, need_tree_of
from treelaws.schemas import kind_of
from treelaws.sheets import named_values, same_sheet
from treelaws.states import State, turned
from treelaws.trees import is_tree, part_at

_MOST_FORMS = 8
_MOST_DOCUMENTS = 4


class Ledger:
    """The states behind all deeds, the first one ahead of them, and the notes of the deeds."""

    def __init__(self, sheet):
        need_sheet(sheet)
        self._states = [State(same_sheet(sheet), {}, {}, {}, {})]
        self._noted = []

    def sheet_now(self):
        """Returns the present sheet."""
        return same_sheet(self._states[-1].sheet)

    def kept(self):
        """Returns a dict from the names of the kept forms to pairs (kind, form)."""
        return {name: (kind, Form(terms)) for name, (kind, terms) in self._states[-1].forms.items()}

    def verdicts(self):
        """Returns a dict from the names of the kept forms to the first trees at which they are not 0, or None."""
        return dict(self._states[-1].breaks)

    def documents(self):
        """Returns a dict from the names of the documents to their trees."""
        return {name: tree for name, (_, tree) in self._states[-1].papers.items()}

    def keep(self, name, kind, form):
        """Keeps a form under a name; raises NoName, NameTaken, TooMany(8), NoKind, NoForm, TooMany."""
        now = self._states[-1]
        _need_free(name, now.forms, _MOST_FORMS)
        tree = first_break(now.sheet, kind, form)
        return self._do(("keep", name, kind, form.terms), now.with_form(name, kind, form.terms, tree))

    def forget(self, name):
        """Keeps a form no longer; raises NoName."""
        now = self._states[-1]
        _need_held(name, now.forms)
        return self._do(("forget", name), now.without_form(name))

    def add_variant(self, kind, variant, rules):
        """Adds a variant to the sheet; raises what with_variant raises, Mismatch, TooMany."""
        return self._turn(("add", kind, variant, rules), with_variant(self._states[-1].sheet, kind, variant, rules))

    def drop_variant(self, tag):
        """Takes a variant from the sheet; raises what without_variant raises, Mismatch, TooMany."""
        return self._turn(("cut", tag), without_variant(self._states[-1].sheet, tag))

    def set_rules(self, tag, rules):
        """Gives a tag other rules; raises what with_rules raises, Mismatch, TooMany."""
        return self._turn(("rules", tag, rules), with_rules(self._states[-1].sheet, tag, rules))

    def _turn(self, note, sheet):
        """Gives the ledger another sheet, as a deed."""
        now = self._states[-1]
        if not all([is_tree(sheet[0], kind, tree) for kind, tree in now.papers.values()]):
            raise Mismatch("a document is no tree of its kind any more")
        return self._do(note, now.with_sheet(sheet, breaks_of(sheet, now.forms)))

    def put(self, name, kind, tree):
        """Puts a new document; raises NoName, NameTaken, TooMany(4), NoKind, NoTree, TooMany(200)."""
        now = self._states[-1]
        _need_free(name, now.papers, _MOST_DOCUMENTS)
        need_kind(now.sheet, kind)
        need_tree_of(now.sheet, kind, tree)
        return self._do(("put", name, kind, tree), now.with_paper(name, kind, tree))

    def drop(self, name):
        """Takes a document away; raises NoName."""
        now = self._states[-1]
        _need_held(name, now.papers)
        return self._do(("drop", name), now.without_paper(name))

    def replace(self, name, path, tree):
        """Replaces a part of a document; raises NoName, NoPath, NoTree, TooMany(200)."""
        now = self._states[-1]
        _need_held(name, now.papers)
        kind, old = now.papers[name]
        new = replaced(now.sheet[0], old, path, tree)
        return self._do(("replace", name, path, tree), now.with_paper(name, kind, new))

    def exchange(self, name, one, other):
        """Exchanges two parts of a document; raises NoName, NoPath, NoTree, NoPath."""
        now = self._states[-1]
        _need_held(name, now.papers)
        kind, old = now.papers[name]
        new = exchanged(now.sheet[0], old, one, other)
        return self._do(("exchange", name, one, other), now.with_paper(name, kind, new))

    def bend(self, name, path, number, change):
        """Adds an integer to what is stored of a number of a part; raises NoName, NoPath, NoNumber."""
        now = self._states[-1]
        _need_held(name, now.papers)
        part = part_at(now.papers[name][1], path)
        need_number(now.sheet, kind_of(now.sheet[0], part[0]), number)
        if not is_integer(change):
            raise NoNumber("what is added to a number is an integer")
        return self._do(("bend", name, path, number, change), now.with_bend(name, path, number, change))

    def _do(self, note, state):
        """Notes a deed and makes what it leads to the present state; returns the names of turned verdicts."""
        before = self._states[-1]
        self._states.append(state)
        self._noted.append(note)
        return turned(before, state)

    def stored(self, name, path):
        """Returns a dict from the names of a part's numbers to what is stored of them; raises NoName, NoPath."""
        now = self._states[-1]
        _need_held(name, now.papers)
        return _stored_at(now, name, path)

    def alarms(self, name):
        """Returns the ascending list of the alarms of a document: pairs (path, name of a form); raises NoName."""
        now = self._states[-1]
        _need_held(name, now.papers)
        tree = now.papers[name][1]
        found = []
        for path in now.bent_paths(name):
            kind = kind_of(now.sheet[0], part_at(tree, path)[0])
            told = _stored_at(now, name, path)
            found.extend([(path, held) for held, (one, terms) in now.forms.items()
                          if one == kind and now.breaks[held] is None and _worth_of(terms, told)])
        return sorted(set(found))

    def notes(self):
        """Returns the list of all deeds."""
        return list(self._noted)

    def mark(self):
        """Returns the number of the deeds."""
        return len(self._noted)

    def back(self, number):
        """Goes back to behind the first so many deeds; raises NoMark."""
        if not is_integer(number) or not 0 <= number <= len(self._noted):
            raise NoMark("there are not so many deeds")
        before = self._states[-1]
        self._states = self._states[:number + 1]
        self._noted = self._noted[:number]
        return turned(before, self._states[-1])

    def need_tree(self, tree):
        """Raises NoTree if a tree is no tree of a kind of the sheet."""
        schema = self._states[-1].sheet[0]
        if not any([is_tree(schema, kind, tree) for kind in schema]):
            raise NoTree("what is passed is no tree of a kind of the sheet")


def _need_free(name, held, most):
    """Raises NoName, NameTaken, TooMany unless one more can be held under any object as a name."""
    if not is_name(name):
        raise NoName("what is passed is no name")
    if name in held:
        raise NameTaken("the name is in use")
    if len(held) == most:
        raise TooMany(most)


def _need_held(name, held):
    """Raises NoName unless something is held under any object as a name."""
    if not is_name(name) or name not in held:
        raise NoName("nothing has this name")


def _stored_at(state, name, path):
    """Returns a dict from the names of a part's numbers to what is stored of them; raises NoPath."""
    told = named_values(state.sheet, part_at(state.papers[name][1], path))
    bends = state.bends[name]
    return {number: worth + bends.get((path, number), 0) for number, worth in told.items()}


def _worth_of(terms, told):
    """Returns the value of the form with some terms."""
    form = Form(terms)
    return form(told)
