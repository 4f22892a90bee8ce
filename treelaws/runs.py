"""The runs of filters: to which states they lead, and which situations trees have."""

from treelaws.errors import TooMany
from treelaws.schemas import tags_of
from treelaws.trees import parts_of

_MOST_SITUATIONS = 40


def states_of(states, tree):
    """Returns the ascending tuple of the states of a filter to which runs at a tree lead."""
    below = []
    for part in parts_of(tree)[::-1]:
        found = [below.pop() for _ in part[1:]]
        led = [name for name, steps in states.items() if any([_fits(step, part[0], found) for step in steps])]
        below.append(_ascending(led))
    return below[0]


def _fits(step, tag, below):
    """Returns whether a step is one with a tag over parts with some states."""
    return step[0] == tag and all([name in found for name, found in zip(step[1], below)])


def _ascending(names):
    """Returns the ascending tuple of some names without duplicates."""
    return tuple(sorted(set(names)))


class Runs:
    """All situations of the trees of a schema under some filters; raises TooMany(40).

    A situation of a kind is a tuple with the tuple of the states for each filter. It is told by its place in
    the list of its kind's situations.
    """

    def __init__(self, schema, filters):
        self.filters = filters
        self.situations = {kind: [] for kind in schema}
        self._steps = {tag: _steps_with(filters, tag) for tag in tags_of(schema)}
        # For each tag, child by child, for each situation of the child's kind: the steps that fit it, as bits.
        self._fitting = {tag: [[] for _ in children] for variants in schema.values() for tag, children in variants}
        # For each tag, from the steps that fit at all children to the situation to which they lead.
        self._led = {tag: {} for tag in self._steps}
        while self._finds_more(schema):
            pass

    def _finds_more(self, schema):
        before = self._how_many()
        for kind, variants in schema.items():
            for tag, _ in variants:
                met = _all_met(self._all_steps(tag), self._fitting[tag])
                for fitting in met:
                    if fitting not in self._led[tag]:
                        self._led[tag][fitting] = self._place_of(schema, kind, self._states_led(tag, fitting))
        return self._how_many() > before

    def _how_many(self):
        return sum([len(some) for some in self.situations.values()])

    def _all_steps(self, tag):
        return (1 << len(self._steps[tag])) - 1

    def _states_led(self, tag, fitting):
        steps = [step for place, step in enumerate(self._steps[tag]) if fitting >> place & 1]
        return tuple([_ascending([state for at, state, _ in steps if at == number])
                      for number in range(len(self.filters))])

    def _place_of(self, schema, kind, situation):
        """Returns the place of a situation, a new one perhaps."""
        some = self.situations[kind]
        if situation not in some:
            if self._how_many() == _MOST_SITUATIONS:
                raise TooMany(_MOST_SITUATIONS)
            some.append(situation)
            self._take(schema, kind, situation)
        return some.index(situation)

    def _take(self, schema, kind, situation):
        """Works out at which children of this kind which steps fit a situation."""
        for variants in schema.values():
            for tag, children in variants:
                for place, child in enumerate(children):
                    if child == kind:
                        fits = [some[place] in situation[at] for at, _, some in self._steps[tag]]
                        self._fitting[tag][place].append(_bits_of(fits))

    def situation_over(self, tag, parts):
        """Returns the situation of a tree from those of its parts."""
        fitting = self._all_steps(tag)
        for bits, part in zip(self._fitting[tag], parts):
            fitting = fitting & bits[part]
        return self._led[tag][fitting]

    def lets(self, choice, kind):
        """Returns a list that tells for each situation of a kind whether those filters of a choice let it by."""
        return [all([_has_root(self.filters[at], situation[at]) for at in choice])
                for situation in self.situations[kind]]


def _steps_with(filters, tag):
    """Returns the list of the steps (place of the filter, state, states of the parts) with a tag."""
    return [(at, state, step[1]) for at, some in enumerate(filters)
            for state, steps in some[0].items() for step in steps if step[0] == tag]


def _bits_of(truths):
    """Returns the integer with the bits that some truths tell, the lowest one first."""
    return sum([1 << place for place, true in enumerate(truths) if true])


def _all_met(whole, fitting):
    """Returns the list of all integers that have the bits in common of one integer of each of some lists."""
    found = {whole: True}
    for some in fitting:
        found = {bits & other: True for bits in found for other in some}
    return list(found)


def _has_root(one, states):
    """Returns whether one of some states is a root of a filter."""
    return any([state in one[1] for state in states])
