"""Sheets for the tests, and slow ways to work out by definition what the package returns about them."""

import itertools
import random
from fractions import Fraction

from samples import BINARY, ROW, all_of_size, compare, ordered, random_schema, size

TAGS_RULES = {
    "leaf": (((1, ()),), ((1, ()),), ()),
    "join": (((1, ()), (1, ((0, "tags"),)), (1, ((1, "tags"),))), ((1, ((0, "leaves"),)), (1, ((1, "leaves"),))),
             ((1, ()), (1, ((0, "joins"),)), (1, ((1, "joins"),)))),
}
TAGS = (BINARY, {"tree": ("tags", "leaves", "joins")}, TAGS_RULES)
POWER = (ROW, {"row": ("steps", "power")}, {
    "end": ((), ((1, ()),)), "more": (((1, ()), (1, ((0, "steps"),))), ((2, ((0, "power"),)),))})
SUMS = (ROW, {"row": ("steps", "sum")}, {
    "end": ((), ()), "more": (((1, ()), (1, ((0, "steps"),))), ((1, ((0, "steps"),)), (1, ((0, "sum"),))))})
DEPTHS = (BINARY, {"tree": ("depth", "leaves")}, {
    "leaf": ((), ((1, ()),)),
    "join": (((1, ()), (1, ((0, "depth"),))), ((1, ((0, "leaves"),)), (1, ((1, "leaves"),))))})
EMPTY = ({"none": (("again", ("none",)),), "some": (("bare", ()), ("never", ("none", "some")))},
         {"none": ("a", "b"), "some": ("b",)},
         {"again": ((), ((2, ((0, "a"),)),)), "bare": ((),), "never": (((3, ((0, "a"), (1, "b"))),),)})
MIXED = ({"list": (("nil", ()), ("cons", ("item", "list"))), "item": (("one", ()), ("nest", ("list",)))},
         {"list": ("len", "sum"), "item": ("worth",)},
         {"nil": ((), ()), "cons": (((1, ()), (1, ((1, "len"),))), ((1, ((0, "worth"),)), (1, ((1, "sum"),)))),
          "one": (((1, ()),),), "nest": (((1, ()), (2, ((0, "sum"),))),)})
PRODUCTS = (BINARY, {"tree": ("x", "y")}, {
    "leaf": (((2, ()),), ((-1, ()),)),
    "join": (((1, ((0, "x"), (1, "x"))),), ((-3, ()), (2, ((0, "y"), (1, "x"))), (1, ((1, "y"),))))})
NUMBERLESS = (BINARY, {"tree": ()}, {"leaf": (), "join": ()})
SHEETS = (TAGS, POWER, SUMS, DEPTHS, EMPTY, MIXED, PRODUCTS, NUMBERLESS)

NAMES = ("a", "b", "c", "d", "b2", "x1", "longname", "z")


def random_rule(source, below, factors, most):
    """A rule over children with the numbers in below."""
    uses = [tuple(pair for pair in choice if pair)
            for choice in itertools.product(*[[None] + [(child, name) for name in names]
                                              for child, names in enumerate(below)])]
    picked = source.sample(uses, source.randint(0, min(most, len(uses))))
    return tuple((source.choice(factors), some) for some in sorted(picked))


def random_rules(source, schema, numbers, factors, most):
    return {tag: tuple(random_rule(source, [numbers[child] for child in children], factors, most) for _ in numbers[kind])
            for kind, variants in schema.items() for tag, children in variants}


def random_sheet(source, most_numbers, factors=(1, 1, 1, 2, -1, 3, -2), most=3):
    """A sheet of one to three kinds, some perhaps empty."""
    schema = random_schema(source)
    while len(schema) > 3 or not any(variants for variants in schema.values()):
        schema = random_schema(source)
    numbers = {kind: tuple(source.sample(NAMES, source.randint(0, most_numbers))) for kind in schema}
    return schema, numbers, random_rules(source, schema, numbers, factors, most)


def random_sheets(many, most_numbers, seed, **more):
    source = random.Random(seed)
    return [random_sheet(source, most_numbers, **more) for _ in range(many)]


def value(sheet, tree):
    """A dict from the names of a tree's numbers to their values, by point 7, part by part."""
    schema, numbers, rules = sheet
    kind = next(kind for kind, variants in schema.items() if tree[0] in dict(variants))
    parts = [value(sheet, part) for part in tree[1:]]
    told = {}
    for name, rule in zip(numbers[kind], rules[tree[0]]):
        told[name] = 0
        for factor, uses in rule:
            for child, other in uses:
                factor *= parts[child][other]
            told[name] += factor
    return told


def products(names, degree):
    """All products of at most so many names, in order."""
    return [product for many in range(degree, -1, -1)
            for product in itertools.combinations_with_replacement(sorted(names), many)]


def value_of(terms, told):
    """The value of a form with some terms."""
    total = 0
    for factor, names in terms:
        for name in names:
            factor *= told[name]
        total += factor
    return total


def row(names, degree, told):
    return [value_of([(1, product)], told) for product in products(names, degree)]


class Rows:
    """Independent rows of fractions, each reduced by the ones ahead."""

    def __init__(self):
        self.rows = []

    def rest(self, new):
        new = [Fraction(worth) for worth in new]
        for lead, old in self.rows:
            times = new[lead]
            if times:
                new = [one - times * other for one, other in zip(new, old)]
        return new

    def take(self, new):
        """Takes a row if it is no sum of multiples of those that were taken; returns whether it is none."""
        rest = self.rest(new)
        lead = next((place for place, worth in enumerate(rest) if worth), None)
        if lead is None:
            return False
        self.rows.append((lead, [worth / rest[lead] for worth in rest]))
        return True


def rank(rows):
    span = Rows()
    return sum([span.take(one) for one in rows])


def null_rows(rows, width):
    """Rows of fractions that generate all rows with which the sum of products with each of some rows is 0."""
    span = Rows()
    for one in rows:
        span.take(one)
    full = sorted(span.rows)
    for at, (lead, one) in enumerate(full):
        for before in range(at):
            times = full[before][1][lead]
            full[before] = (full[before][0], [x - times * y for x, y in zip(full[before][1], one)])
    leads = {lead: one for lead, one in full}
    found = []
    for free in range(width):
        if free not in leads:
            new = [Fraction(0)] * width
            new[free] = Fraction(1)
            for lead, one in leads.items():
                new[lead] = -one[free]
            found.append(new)
    return found


def all_trees(sheet, many):
    """(A dict from the kinds to all their trees up to a size, in order, the size): about so many of all kinds at most."""
    schema = sheet[0]
    found = {}
    for most in range(1, 8):
        some = all_of_size(schema, most)
        if most > 3 and sum(len(trees) for lists in some.values() for trees in lists) > many:
            return found, most - 1
        found = {kind: ordered(schema, kind, [tree for trees in lists for tree in trees]) for kind, lists in some.items()}
    return found, 7


def first_of(sheet, kind, degree, trees):
    """The first trees among some trees of a kind in order, by their rows alone."""
    span = Rows()
    return [tree for tree in trees if span.take(row(sheet[1][kind], degree, value(sheet, tree)))]


def search(sheet, degree):
    """A dict from the kinds to the lists of their first trees."""
    spans = {kind: Rows() for kind in sheet[0]}
    return search_by(sheet, lambda kind, tree: spans[kind].take(row(sheet[1][kind], degree, value(sheet, tree))))


def search_by(sheet, takes):
    """The same: all trees over first trees are tried, size by size, up to 200; takes(kind, tree) tells which are first ones."""
    schema = sheet[0]
    firsts = {kind: [] for kind in schema}
    for total in range(1, 202):
        below = {kind: [(tree, size(tree)) for tree in trees] for kind, trees in firsts.items()}
        sizes = [1 + sum(max(part[1] for part in below[child]) for child in children)
                 for variants in schema.values() for _, children in variants if all(below[child] for child in children)]
        if total > max(sizes, default=0):
            return firsts
        for kind, variants in schema.items():
            new = [(tag, *[part for part, _ in parts]) for tag, children in variants
                   for parts in itertools.product(*[below[child] for child in children])
                   if 1 + sum(part[1] for part in parts) == total]
            for tree in ordered(schema, kind, new):
                if takes(kind, tree):
                    firsts[kind].append(tree)
    raise AssertionError("the oracle is for small first trees")


def is_before(sheet, kind, one, other):
    return compare(sheet[0], kind, one, other) < 0
