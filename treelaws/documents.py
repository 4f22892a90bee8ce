"""Documents: trees with deeds that change them and can be undone."""

from treelaws.deeds import exchanged, replaced
from treelaws.errors import NoForm, NoMark
from treelaws.forms import Form, is_form_over
from treelaws.integers import is_integer
from treelaws.needs import need_kind, need_sheet, need_tree_of
from treelaws.schemas import kind_of
from treelaws.sheets import all_values, named_values, same_sheet
from treelaws.trees import is_path, part_at, parts_of, paths

_MOST_DEGREE = 12


class Document:
    """A tree of a kind of a sheet, with all trees ahead of its deeds, and those of the deeds that were taken back."""

    def __init__(self, sheet, kind, tree):
        need_sheet(sheet)
        need_kind(sheet, kind)
        need_tree_of(sheet, kind, tree)
        self._sheet = same_sheet(sheet)
        self._past = [tree]
        # The place of the present tree.
        self._present = 0
        self._watched = []

    @property
    def tree(self):
        """The present tree."""
        return self._past[self._present]

    @property
    def deeds(self):
        """How many deeds can be undone."""
        return self._present

    def paths(self):
        """Returns the list of the paths of all parts, each ahead of the paths into it, from the left."""
        return paths(self._past[self._present])

    def part(self, path):
        """Returns the tree at a path; raises NoPath."""
        return part_at(self._past[self._present], path)

    def __getitem__(self, path):
        return named_values(self._sheet, part_at(self._past[self._present], path))

    def __setitem__(self, path, tree):
        self._goes_to(replaced(self._sheet[0], self._past[self._present], path, tree))

    def __contains__(self, path):
        return is_path(self._past[self._present], path)

    def __iter__(self):
        raise TypeError("a document has paths: ask for paths()")

    def __len__(self):
        return len(parts_of(self._past[self._present]))

    def exchange(self, one, other):
        """Exchanges the parts at two paths; raises NoPath, NoTree, NoPath."""
        self._goes_to(exchanged(self._sheet[0], self._past[self._present], one, other))

    def _goes_to(self, tree):
        """Makes another tree the present one, as a deed."""
        self._past = self._past[:self._present + 1] + [tree]
        self._present = self._present + 1

    def undo(self):
        """Takes the last deed back; raises NoMark."""
        if self._present == 0:
            raise NoMark("there is no deed to undo")
        self._present = self._present - 1

    def redo(self):
        """Does the deed again that was taken back last; raises NoMark."""
        if self._present + 1 == len(self._past):
            raise NoMark("there is no deed to do again")
        self._present = self._present + 1

    def changed(self):
        """Returns the list of the paths that the trees behind and ahead of the last deed have with other values."""
        if self._present == 0:
            return []
        before = _told_by_path(self._sheet, self._past[self._present - 1])
        now = _told_by_path(self._sheet, self._past[self._present])
        return [path for path, told in now.items() if path in before and before[path] != told]

    def watch(self, kind, form):
        """Watches a form at all parts of a kind; returns its number; raises NoKind, NoForm."""
        need_kind(self._sheet, kind)
        if not is_form_over(form, self._sheet[1][kind], _MOST_DEGREE):
            raise NoForm("what is passed is no form of the kind's numbers")
        self._watched.append((kind, form.terms))
        return len(self._watched) - 1

    def failing(self, number):
        """Returns the list of the paths of the parts at which a watched form is not 0; raises NoMark."""
        if not is_integer(number) or not 0 <= number < len(self._watched):
            raise NoMark("no form is watched under this number")
        kind, terms = self._watched[number]
        form = Form(terms)
        names = self._sheet[1][kind]
        found = []
        for path, (one, told) in _told_by_path(self._sheet, self._past[self._present]).items():
            if one == kind and form({name: worth for name, worth in zip(names, told)}):
                found.append(path)
        return found


def _told_by_path(sheet, tree):
    """Returns a dict from the paths of all parts, in order, to pairs of the part's kind and values."""
    told = all_values(sheet, tree)
    return {path: (kind_of(sheet[0], part[0]), told[path]) for path, part in zip(paths(tree), parts_of(tree))}
