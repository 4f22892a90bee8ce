"""States of a ledger. A state is never changed: each deed leads to a new one."""


class State:
    """A sheet, kept forms (kind, terms) with the first trees that break them, and documents (kind, tree).

    bends has a dict for each document, from pairs (path, number) to all that was added there to what is stored.
    """

    def __init__(self, sheet, forms, breaks, papers, bends):
        self.sheet = sheet
        self.forms = forms
        self.breaks = breaks
        self.papers = papers
        self.bends = bends

    def with_form(self, name, kind, terms, tree):
        """Returns the state with a kept form more."""
        return State(self.sheet, _with(self.forms, name, (kind, terms)), _with(self.breaks, name, tree),
                     self.papers, self.bends)

    def without_form(self, name):
        """Returns the state without a kept form."""
        return State(self.sheet, _without(self.forms, name), _without(self.breaks, name), self.papers, self.bends)

    def with_sheet(self, sheet, breaks):
        """Returns the state with another sheet and what breaks the forms there."""
        return State(sheet, self.forms, breaks, self.papers, {name: {} for name in self.bends})

    def with_paper(self, name, kind, tree):
        """Returns the state with a new document, or another tree of an old one."""
        return State(self.sheet, self.forms, self.breaks, _with(self.papers, name, (kind, tree)),
                     _with(self.bends, name, {}))

    def without_paper(self, name):
        """Returns the state without a document."""
        return State(self.sheet, self.forms, self.breaks, _without(self.papers, name), _without(self.bends, name))

    def with_bend(self, name, path, number, change):
        """Returns the state with an integer added to what is stored of a number."""
        bends = self.bends[name]
        new = _with(bends, (path, number), bends.get((path, number), 0) + change)
        return State(self.sheet, self.forms, self.breaks, self.papers, _with(self.bends, name, new))

    def bent_paths(self, name):
        """Returns the list of the different paths of a document at which some stored number is not its value."""
        return sorted(set([path for (path, _), change in self.bends[name].items() if change]))


def turned(before, after):
    """Returns the ascending list of the names of forms in two states that are broken by other trees in the second."""
    return sorted([name for name, tree in before.breaks.items()
                   if name in after.breaks and after.breaks[name] != tree], key=str)


def _with(held, key, thing):
    """Returns a dict with something more, or something else, under a key."""
    new = {one: other for one, other in held.items()}
    new[key] = thing
    return new


def _without(held, key):
    """Returns a dict without a key."""
    return {one: thing for one, thing in held.items() if one != key}
