"""The search for the first trees of all kinds, size by size."""

from treelaws.errors import TooMany
from treelaws.plans import plans_of, values_over
from treelaws.products import how_many_products, row_of, row_plan
from treelaws.spans import Span

_MOST_TAGS = 200


class Finder:
    """The first trees of one kind that were found so far, with their values and the span of their rows."""

    def __init__(self, names, degree):
        self.firsts = []
        self.told = []
        self.span = Span(how_many_products(len(names), degree))
        # From the sizes, ascending, to the lists of the places of the trees.
        self.places = {}
        self.largest = 0
        self._plan = row_plan(names, degree)
        self._tried = {}

    def row(self, told):
        """Returns the row of a tree with some values."""
        return row_of(self._plan, told)

    def tries(self, told):
        """Returns whether a tree with some values is a first one, and takes its row if it is."""
        # Trees with the same values have the same row: only the first one of them is tried.
        if told in self._tried:
            return False
        self._tried[told] = True
        return self.span.takes(self.row(told))

    def keeps(self, tree, told, size):
        """Keeps a first tree."""
        self.places.setdefault(size, []).append(len(self.firsts))
        self.firsts.append(tree)
        self.told.append(told)
        self.largest = size


def search(sheet, degree):
    """Returns a dict from the kinds, in order, to finders that have all first trees; raises TooMany(200)."""
    schema, numbers, _ = sheet
    finders = {kind: Finder(numbers[kind], degree) for kind in schema}
    plans = plans_of(sheet)
    for size in range(1, _MOST_TAGS + 1):
        if size > _largest_candidate(schema, finders):
            return finders
        for kind, variants in schema.items():
            for tag, children in variants:
                _try_all(finders, kind, plans[tag], (tag, children), size)
    _refuse_larger(schema, finders, plans)
    return finders


def _largest_candidate(schema, finders):
    """Returns the size of the largest tree over first trees that might be a first one, 0 without any."""
    sizes = [1 + sum([finders[child].largest for child in children])
             for kind, variants in schema.items() if not finders[kind].span.is_full()
             for _, children in variants if all([finders[child].largest for child in children])]
    return max([int(size) for size in sizes], default=0)


def _try_all(finders, kind, plans, variant, size):
    """Tries all trees of a size with one variant of a kind over first trees, in order."""
    finder = finders[kind]
    tag, children = variant
    if finder.span.is_full():
        return
    for picks in _picks(finders, children, size - 1):
        told = values_over(plans, [finders[child].told[place] for child, place in zip(children, picks)])
        if finder.tries(told):
            parts = [finders[child].firsts[place] for child, place in zip(children, picks)]
            finder.keeps((tag,) + tuple(parts), told, size)


def _picks(finders, children, total):
    """Returns the list of all tuples of places of first trees, one for each child, with so many tags, in order."""
    if not children:
        return [()] if total == 0 else []
    places = finders[children[0]].places
    if len(children) == 1:
        return [(place,) for place in places.get(total, [])]
    found = []
    for size, some in places.items():
        if size < total:
            others = _picks(finders, children[1:], total - size)
            found.extend([(place,) + more for place in some for more in others])
    return found


def _refuse_larger(schema, finders, plans):
    """Raises TooMany(200) if a first tree has more than 200 tags."""
    # The least one of them has parts with less, which are all found.
    for kind, variants in schema.items():
        span = finders[kind].span
        for tag, children in variants:
            if not span.is_full():
                for told in _told_over_all(finders, plans[tag], children):
                    if span.lacks(finders[kind].row(told)):
                        raise TooMany(_MOST_TAGS)


def _told_over_all(finders, plans, children):
    """Returns the list of the values of all trees with more than 200 tags, one tag over first trees."""
    picks = [((), 1)]
    for child in children:
        sized = [(place, size) for size, some in finders[child].places.items() for place in some]
        picks = [(pick + (place,), total + size) for pick, total in picks for place, size in sized]
    return [values_over(plans, [finders[child].told[place] for child, place in zip(children, pick)])
            for pick, total in picks if total > _MOST_TAGS]
