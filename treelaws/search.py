"""The search for the first trees of all kinds, size by size."""

from treelaws.errors import TooMany
from treelaws.plans import plans_of, values_over
from treelaws.products import how_many_products, row_of, row_plan
from treelaws.remainders import ModSpan
from treelaws.spans import Span

_MOST_TAGS = 200


class Finder:
    """The first trees of one kind that were found so far, in order, with their values and situations.

    Each situation of the kind has a span of the rows of its first trees, and is told by its place in spans.
    """

    def __init__(self, names, degree, spans):
        self.firsts = []
        self.told = []
        self.situations = []
        self.spans = spans
        # From the sizes, ascending, to the lists of the places of the trees.
        self.places = {}
        self.largest = 0
        self._plan = row_plan(names, degree)
        self._tried = {}

    def is_full(self):
        """Returns whether no further tree can be a first one."""
        return all([span.is_full() for span in self.spans])

    def row(self, told):
        """Returns the row of a tree with some values."""
        return row_of(self._plan, told)

    def tries(self, situation, told):
        """Returns whether a tree with some values is a first one of a situation, and takes its row if it is."""
        # Trees with the same values have the same row: only the first one of them is tried.
        if (situation, told) in self._tried:
            return False
        self._tried[(situation, told)] = True
        return self.spans[situation].takes(self.row(told))

    def keeps(self, tree, told, situation, size):
        """Keeps a first tree."""
        self.places.setdefault(size, []).append(len(self.firsts))
        self.firsts.append(tree)
        self.told.append(told)
        self.situations.append(situation)
        self.largest = size


class Makings:
    """What the numbers and the runs of filters make of a tag over some parts; None for no filters or no modulus."""

    def __init__(self, sheet, runs, modulus):
        self._plans = plans_of(sheet)
        self._runs = runs
        self._modulus = modulus

    def told_over(self, tag, parts):
        """Returns the values of a tree from those of its parts, modulo the modulus."""
        told = values_over(self._plans[tag], parts)
        if self._modulus is None:
            return told
        return tuple([worth % self._modulus for worth in told])

    def situation_over(self, tag, parts):
        """Returns the situation of a tree from those of its parts: its place among those of its kind."""
        if self._runs is None:
            return 0
        return self._runs.situation_over(tag, parts)


def search(sheet, degree):
    """Returns a dict from the kinds, in order, to finders that have all first trees; raises TooMany(200)."""
    finders = {kind: Finder(names, degree, [_span_of(names, degree)]) for kind, names in sheet[1].items()}
    _find_all(sheet[0], finders, Makings(sheet, None, None))
    return finders


def search_runs(sheet, degree, runs):
    """Returns the same, situation by situation of the runs of some filters."""
    finders = {kind: Finder(names, degree, [_span_of(names, degree) for _ in runs.situations[kind]])
               for kind, names in sheet[1].items()}
    _find_all(sheet[0], finders, Makings(sheet, runs, None))
    return finders


def search_modulo(sheet, degree, modulus):
    """Returns the same for the first trees modulo a number."""
    finders = {kind: Finder(names, degree, [ModSpan(how_many_products(len(names), degree), modulus)])
               for kind, names in sheet[1].items()}
    _find_all(sheet[0], finders, Makings(sheet, None, modulus))
    return finders


def _span_of(names, degree):
    """Returns an empty span for the rows of a kind with some numbers."""
    return Span(how_many_products(len(names), degree))


def _find_all(schema, finders, makings):
    """Finds all first trees; raises TooMany(200)."""
    for size in range(1, _MOST_TAGS + 1):
        if size > _largest_candidate(schema, finders):
            return
        for kind, variants in schema.items():
            for tag, children in variants:
                _try_all(finders, kind, makings, (tag, children), size)
    _refuse_larger(schema, finders, makings)


def _largest_candidate(schema, finders):
    """Returns the size of the largest tree over first trees that might be a first one, 0 without any."""
    sizes = [1 + sum([finders[child].largest for child in children])
             for kind, variants in schema.items() if not finders[kind].is_full()
             for _, children in variants if all([finders[child].largest for child in children])]
    return max([int(size) for size in sizes], default=0)


def _try_all(finders, kind, makings, variant, size):
    """Tries all trees of a size with one variant of a kind over first trees, in order."""
    finder = finders[kind]
    tag, children = variant
    if finder.is_full():
        return
    for picks in _picks(finders, children, size - 1):
        situation = _situation_at(finders, makings, variant, picks)
        if not finder.spans[situation].is_full():
            told = _told_at(finders, makings, variant, picks)
            if finder.tries(situation, told):
                parts = [finders[child].firsts[place] for child, place in zip(children, picks)]
                finder.keeps((tag,) + tuple(parts), told, situation, size)


def _situation_at(finders, makings, variant, picks):
    """Returns the situation of a tree with one variant over first trees with some places."""
    tag, children = variant
    return makings.situation_over(tag, [finders[child].situations[place] for child, place in zip(children, picks)])


def _told_at(finders, makings, variant, picks):
    """Returns the values of a tree with one variant over first trees with some places."""
    tag, children = variant
    return makings.told_over(tag, [finders[child].told[place] for child, place in zip(children, picks)])


def _picks(finders, children, total):
    """Returns the list of all tuples of places of first trees, one for each child, with so many tags, in order."""
    if not children:
        return [()] if total == 0 else []
    places = finders[children[0]].places
    if len(children) == 1:
        return [(place,) for place in places.get(total, [])]
    found = []
    for size, some in places.items():
        if size < total:
            others = _picks(finders, children[1:], total - size)
            found.extend([(place,) + more for place in some for more in others])
    return found


def _refuse_larger(schema, finders, makings):
    """Raises TooMany(200) if a first tree has more than 200 tags."""
    # The least one of them has parts with less, which are all found.
    for kind, variants in schema.items():
        finder = finders[kind]
        for tag, children in variants:
            picks = [] if finder.is_full() else _larger_picks(finders, children)
            for pick in picks:
                span = finder.spans[_situation_at(finders, makings, (tag, children), pick)]
                if not span.is_full() and span.lacks(finder.row(_told_at(finders, makings, (tag, children), pick))):
                    raise TooMany(_MOST_TAGS)


def _larger_picks(finders, children):
    """Returns the list of all tuples of places of first trees, one for each child, with 200 tags or more."""
    picks = [((), 1)]
    for child in children:
        sized = [(place, size) for size, some in finders[child].places.items() for place in some]
        picks = [(pick + (place,), total + size) for pick, total in picks for place, size in sized]
    return [pick for pick, total in picks if total > _MOST_TAGS]
