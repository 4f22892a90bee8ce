import copy
import itertools
import math
import random
import unittest

from oracles import EMPTY, MIXED, NUMBERLESS, POWER, SHEETS, SUMS, TAGS
from oracles import all_trees, products, random_sheets, row, search_by, value, value_of
from samples import ALIENS, CHAIN, TERNARY, size
from test_filters import bare, limit_of
from treelaws.errors import Mismatch, NoForm, NoKind, NoModulus, NoSheet, TooMany
from treelaws.forms import Form
from treelaws.modulo import ModSpace, equations_modulo, first_break_modulo, first_trees_modulo
from treelaws.spaces import Space

RANDOM = random_sheets(60, 3, 141) + random_sheets(20, 4, 142, most=1)
MODULI = (2, 3, 4, 6, 8, 12, 25, 30, 64, 97, 100, 512, 720, 997, 1000)
A, B = Form.named("a"), Form.named("b")


def all_sums(rows, width, modulus):
    """The set of all sums of integer multiples of some rows, modulo a number, by going on until nothing is new."""
    found = {(0,) * width}
    for one in rows:
        more = found
        for _ in range(modulus - 1):
            more = {tuple((x + y) % modulus for x, y in zip(old, one)) for old in more}
            found = found | more
    return found


def triangle(sums, width, modulus):
    """The rows of point 24, by asking of all sums: the least number at each place, then the least numbers above."""
    rows = []
    for place in range(width):
        some = [one for one in sums if not any(one[:place])]
        own = min([one[place] for one in some if one[place]], default=modulus)
        rows.append([one for one in some if one[place] == own % modulus])
    own = [min([one[place] for one in some if one[place]], default=modulus) for place, some in enumerate(rows)]
    found = []
    for place, some in enumerate(rows):
        right = [one for one in some if all(one[at] < own[at] for at in range(place + 1, width))]
        assert len(right) == 1
        found.append(right[0][:place] + (own[place],) + right[0][place + 1:])
    return found


def random_form(source, names, degree, most):
    return Form([(source.randint(-most, most), product) for product in products(names, degree) if source.random() < .6])


def small_cases(many, seed):
    """Some spaces with few forms, and all of these."""
    source = random.Random(seed)
    for _ in range(many):
        names, degree, modulus = source.choice([(("a",), 1, 30), (("b", "a"), 1, 12), (("a",), 2, 12), (("c", "a", "b"), 1, 6), ((), 3, 50),
                                                (("a", "b"), 0, 9), (("a",), 3, 6), (("b", "a"), 1, 7), (("a", "b"), 2, 2), (("b", "a"), 1, 8)])
        modulus = source.randint(2, modulus)
        forms = [random_form(source, names, degree, 3 * modulus) * source.choice((1, 1, 2, 3)) for _ in range(source.randint(0, 3))]
        order = products(names, degree)
        rows = [[dict((product, factor) for factor, product in form.terms).get(product, 0) for product in order] for form in forms]
        yield names, degree, modulus, forms, order, all_sums(rows, len(order), modulus), source


def form_of(one, order):
    return Form(list(zip(one, order)))


class SpaceTest(unittest.TestCase):
    def test_basis_and_many(self):
        for names, degree, modulus, forms, order, sums, _ in small_cases(150, 2):
            space = ModSpace(names, degree, modulus, forms)
            rows = triangle(sums, len(order), modulus)
            basis = tuple(form_of(one, order) for place, one in enumerate(rows) if one[place] < modulus)
            self.assertEqual([form.terms for form in space.basis], [form.terms for form in basis])
            self.assertEqual((space.many, len(space), bool(space)), (len(sums), len(basis), bool(basis)))
            self.assertEqual((space.names, space.degree, space.modulus), (tuple(sorted(names)), degree, modulus))
            self.assertEqual(space.columns(), order)
            self.assertIsInstance(space.basis, tuple)

    def test_rest_and_in(self):
        for names, degree, modulus, forms, order, sums, source in small_cases(150, 3):
            space = ModSpace(names, degree, modulus, forms)
            rows = triangle(sums, len(order), modulus)
            for form in [random_form(source, names, degree, 2 * modulus) for _ in range(3)] + forms:
                left = [dict((product, factor) for factor, product in form.terms).get(product, 0) for product in order]
                for place, one in enumerate(rows):
                    times = left[place] // one[place]
                    left = [x - times * y for x, y in zip(left, one)]
                self.assertEqual(space.rest(form), form_of(left, order))
                within = tuple(dict((product, factor) for factor, product in form.terms).get(product, 0) % modulus for product in order) in sums
                self.assertIs(form in space, within)
                self.assertIs(form - space.rest(form) in space, True)

    def test_sums_and_common_forms(self):
        last = {}
        for names, degree, modulus, forms, order, sums, _ in small_cases(300, 5):
            space = ModSpace(names, degree, modulus, forms)
            key = (space.names, degree, modulus)
            if key in last:
                other, others = last[key]
                both = sums & others
                self.assertEqual((space & other).many, len(both))
                self.assertFalse([form for form in (space & other).basis if form not in space or form not in other])
                if len(both) < 200:
                    self.assertEqual(space & other, ModSpace(names, degree, modulus, [form_of(one, order) for one in both]))
                union = space | other
                self.assertEqual(union, ModSpace(names, degree, modulus, space.basis + other.basis))
                self.assertEqual(union.many * len(both), len(sums) * len(others))
                self.assertIs(space == other, sums == others)
                changed = space
                changed |= other
                self.assertEqual((changed, space.many), (union, len(sums)))
                changed = space
                changed &= other
                self.assertEqual((changed, space.many), (space & other, len(sums)))
            last[key] = space, sums

    def test_larger_spaces_of_the_same_forms(self):
        source = random.Random(6)
        for _ in range(40):
            names, degree, modulus = tuple(source.sample("abcd", source.randint(1, 4))), source.randint(1, 3), source.choice(MODULI)
            forms = [random_form(source, names, degree, 2000) for _ in range(source.randint(1, 6))]
            space = ModSpace(names, degree, modulus, forms)
            again = ModSpace(names[::-1], degree, modulus, list(reversed(space.basis)))
            self.assertEqual(space, again)
            self.assertEqual([form.terms for form in space.basis], [form.terms for form in again.basis])
            firsts = [form.terms[0][1] for form in space.basis]
            self.assertEqual(firsts, [product for product in space.columns() if product in firsts])
            own = {form.terms[0][1]: form.terms[0][0] for form in space.basis}
            for form in space.basis:
                self.assertEqual(modulus % form.terms[0][0], 0)
                self.assertTrue(all(0 < factor < own.get(product, modulus) for factor, product in form.terms[1:]))
            mixed = sum([source.randint(-9, 9) * form for form in forms], Form(()))
            self.assertIs(mixed in space, True)
            self.assertEqual(space.rest(mixed + modulus * random_form(source, names, degree, 9)), Form(()))
            self.assertEqual(space & space, space)
            self.assertEqual((space & ModSpace(names, degree, modulus, [])).many, 1)
            everything = ModSpace(names, degree, modulus, [form_of([1], [product]) for product in space.columns()])
            self.assertEqual((space & everything, space | everything), (space, everything))
            self.assertEqual(everything.many, modulus ** len(space.columns()))

    def test_in_plain_words(self):
        space = ModSpace(("a",), 1, 12, [8 * A + 6, Form.number(9)])
        self.assertEqual([[str(form) for form in space.basis], space.many], [["4*a", "3"], 12])
        self.assertEqual([str(space.rest(form)) for form in (A, 5 * A + 5, -A, Form.number(-1), 12 * A)], ["a", "a + 2", "3*a", "2", "0"])
        self.assertEqual(ModSpace((), 0, 2, []).many, 1)
        self.assertEqual([len(ModSpace(("a",), 1, 10, [7 * A])), 10 * A in ModSpace(("a",), 1, 10, [])], [1, True])
        self.assertIs(isinstance(space, Space), False)
        with self.assertRaises(AttributeError):
            space.many = 3

    def test_equal(self):
        space = ModSpace(("a", "b"), 1, 6, [2 * A])
        self.assertIs(space == ModSpace(("b", "a"), 1, 6, (4 * A, 8 * A)), True)
        for other in (ModSpace(("a", "b"), 1, 4, [2 * A]), ModSpace(("a", "b"), 2, 6, [2 * A]), ModSpace(("a",), 1, 6, [2 * A]),
                      ModSpace(("a", "b"), 1, 6, [3 * A]), Space(("a", "b"), 1, [A]), 3, None, (2 * A,)):
            self.assertIs(space == other, False)
            self.assertIs(space != other, True)

    def test_wrong_arguments(self):
        self.assertEqual(ModSpace(("a", "b"), 1, 1000, (A,)).modulus, 1000)
        for thing in ALIENS + (["a"], ("a", "a"), ("A",), "ab"):
            if thing != ():
                self.assertRaises(NoForm, ModSpace, thing, thing, thing, thing)
                self.assertRaises(NoForm, ModSpace, thing, 1, 6, [])
        for thing in ALIENS + (-1, 4, "1"):
            self.assertRaises(NoForm, ModSpace, ("a",), thing, None, None)
            self.assertRaises(NoForm, ModSpace, ("a",), thing, 6, [])
        for thing in ALIENS + (0, 1, 1001, -2, "2"):
            self.assertRaises(NoModulus, ModSpace, ("a",), 1, thing, None)
        for thing in ALIENS + (A, [A, 1], (A * A,), [B], (None,)):
            if thing not in ((), []):
                self.assertRaises(NoForm, ModSpace, ("a",), 1, 2, thing)

    def test_mismatch(self):
        space = ModSpace(("a",), 1, 6, [2 * A])
        for thing in ALIENS + (A * A, B, Space(("a",), 1, [])):
            self.assertRaises(Mismatch, space.rest, thing)
            self.assertRaises(Mismatch, lambda: thing in space)
        for thing in ALIENS + (A, Space(("a",), 1, []), ModSpace(("b",), 1, 6, []), ModSpace(("a",), 2, 6, []), ModSpace(("a",), 1, 12, [])):
            self.assertRaises(Mismatch, lambda: space | thing)
            self.assertRaises(Mismatch, lambda: space & thing)
        self.assertRaises(Mismatch, lambda: Space(("a",), 1, []) | space)
        self.assertRaises(Mismatch, Space(("a",), 1, []).within, space)


def slow_firsts(sheet, degree, modulus):
    """A dict from the kinds to the lists of their first trees modulo a number."""
    sums = {kind: Sums(len(products(names, degree)), modulus) for kind, names in sheet[1].items()}
    return search_by(sheet, lambda kind, tree: sums[kind].take(row(sheet[1][kind], degree, value(sheet, tree))))


class Sums:
    """All sums of integer multiples of rows modulo a number: rows with first numbers, reduced by each other."""

    def __init__(self, width, modulus):
        self.modulus, self.rows = modulus, [[modulus * (at == place) for at in range(width)] for place in range(width)]

    def take(self, new):
        taken = False
        for place, own in enumerate(self.rows):
            taken = taken or new[place] % own[place] != 0
            while new[place]:
                times = own[place] // new[place]
                own, new = new, [x - times * y for x, y in zip(own, new)]
            self.rows[place] = own
            new = [worth % self.modulus for worth in new]
        return taken


def most_over(schema, firsts):
    """The greatest number of trees with one tag over some trees."""
    return max([math.prod(len(firsts[child]) for child in children) for variants in schema.values() for _, children in variants])


class SearchTest(unittest.TestCase):
    def cases(self):
        source = random.Random(7)
        for sheet in list(SHEETS) + RANDOM:
            for degree in (1, 2, 3):
                modulus = source.choice(MODULI)
                try:
                    yield sheet, degree, modulus, first_trees_modulo(sheet, degree, modulus)
                except TooMany:
                    continue

    def test_first_trees(self):
        tried = 0
        for sheet, degree, modulus, found in self.cases():
            if most_over(sheet[0], found) < 200 and max([size(tree) for some in found.values() for tree in some], default=0) < 60:
                self.assertEqual(found, {kind: tuple(trees) for kind, trees in slow_firsts(sheet, degree, modulus).items()})
                tried += 1
            self.assertEqual(list(found), list(sheet[0]))
        self.assertGreater(tried, 100)

    def test_first_trees_among_all_small_ones(self):
        for sheet, degree, modulus, found in self.cases():
            trees, most = all_trees(sheet, 40)
            for kind, names in sheet[1].items():
                sums = Sums(len(products(names, degree)), modulus)
                small = [tree for tree in trees[kind] if sums.take(row(names, degree, value(sheet, tree)))]
                self.assertEqual(small, [tree for tree in found[kind] if size(tree) <= most])

    def test_equations_are_divisible(self):
        for sheet, degree, modulus, firsts in self.cases():
            trees, _ = all_trees(sheet, 25)
            found = equations_modulo(sheet, degree, modulus)
            self.assertEqual(list(found), list(sheet[0]))
            for kind, space in found.items():
                self.assertIsInstance(space, ModSpace)
                self.assertEqual((space.names, space.degree, space.modulus), (tuple(sorted(sheet[1][kind])), degree, modulus))
                for tree in trees[kind] + list(firsts[kind]):
                    told = value(sheet, tree)
                    self.assertFalse([form for form in space.basis if value_of(form.terms, told) % modulus])
                # As many rows modulo the number as the first trees make, times the equations, are all rows.
                names = sheet[1][kind]
                sums = Sums(len(products(names, degree)), modulus)
                for tree in firsts[kind]:
                    sums.take(row(names, degree, value(sheet, tree)))
                made = 1
                for place, one in enumerate(sums.rows):
                    made *= modulus // abs(one[place])
                self.assertEqual(made * space.many, modulus ** len(sums.rows))

    def test_all_forms_of_a_small_modulus(self):
        for sheet in SHEETS + tuple(RANDOM[:30]):
            trees = all_trees(sheet, 60)[0]
            for modulus in (2, 3, 4):
                try:
                    found = equations_modulo(sheet, 1, modulus)
                    firsts = first_trees_modulo(sheet, 1, modulus)
                except TooMany:
                    continue
                for kind, names in sheet[1].items():
                    order = products(names, 1)
                    rows = [row(names, 1, value(sheet, tree)) for tree in trees[kind] + list(firsts[kind])]
                    for factors in itertools.product(range(modulus), repeat=len(order)):
                        right = not any(sum(x * y for x, y in zip(factors, one)) % modulus for one in rows)
                        self.assertIs(form_of(factors, order) in found[kind], right)

    def test_first_break(self):
        source = random.Random(8)
        for sheet, degree, modulus, firsts in self.cases():
            for kind, names in sheet[1].items():
                for form in [random_form(source, names, degree, 5), modulus * random_form(source, names, degree, 2), Form(())]:
                    if form.degree not in (degree, -1):
                        continue
                    broken = [tree for tree in firsts[kind] if value_of(form.terms, value(sheet, tree)) % modulus]
                    try:
                        self.assertEqual(first_break_modulo(sheet, kind, form, modulus), broken[0] if broken else None)
                    except TooMany:
                        self.assertEqual(form.degree, -1)

    def test_in_plain_words(self):
        self.assertEqual([str(form) for form in equations_modulo(SUMS, 2, 2)["row"].basis], ["steps*steps + steps", "sum*sum + sum"])
        self.assertEqual(first_break_modulo(SUMS, "row", Form.named("steps"), 3), ("more", ("end",)))
        self.assertEqual(first_break_modulo(TAGS, "tree", Form.named("tags") + 1, 2), None)
        self.assertEqual([str(form) for form in equations_modulo(TAGS, 1, 2)["tree"].basis], ["joins + leaves + 1", "tags + 1"])
        self.assertEqual(equations_modulo(EMPTY, 1, 6)["none"].many, 6 ** 3)
        self.assertEqual(equations_modulo(NUMBERLESS, 2, 6)["tree"].many, 1)


class LimitsTest(unittest.TestCase):
    def test_modulus_after_four_thousand_and_ahead_of_it(self):
        sixes = (TERNARY, {"tree": tuple("abcdef")}, {tag: ((),) * 6 for tag in ("leaf", "fork")})
        for function in (first_trees_modulo, equations_modulo):
            limit_of(self, 4000, function, sixes, 2, 0)
            limit_of(self, 4000, function, sixes, 2, None)
            self.assertRaises(NoModulus, function, sixes, 1, 1001)
            self.assertTrue(function(sixes, 1, 2))
            # 7 * 2 for each of three children is below, 7 * 3 above 4000.
            self.assertTrue(function(sixes, 1, 4))
            limit_of(self, 4000, function, sixes, 1, 8)
            limit_of(self, 4000, function, sixes, 1, 12)
        form = Form.named("a")
        limit_of(self, 4000, first_break_modulo, sixes, "tree", form * form, 1)
        self.assertRaises(NoModulus, first_break_modulo, sixes, "tree", form, 1)
        limit_of(self, 4000, first_break_modulo, sixes, "tree", form, 30)
        limit_of(self, 4000, first_break_modulo, sixes, "tree", Form(()), 30)
        self.assertIsNone(first_break_modulo(sixes, "tree", form, 4))

    def test_exactly_four_thousand(self):
        # 10 products of three names of degree 2; 2, 2 and 1 prime factors would be 20 * 20 * 10.
        schema = {"a": (("t", ("b", "b")),), "b": (("u", ()),)}
        sheet = (schema, {"a": (), "b": tuple("abc")}, {"t": (), "u": ((),) * 3})
        for modulus, right in ((64, True), (128, False)):
            # (10 * 6) ^ 2 = 3600, (10 * 7) ^ 2 = 4900
            if right:
                self.assertTrue(equations_modulo(sheet, 2, modulus))
            else:
                limit_of(self, 4000, equations_modulo, sheet, 2, modulus)
        one = ({"a": (("t", ("b", "b", "c")),), "b": (("u", ()),), "c": (("v", ()),)}, {"a": (), "b": tuple("abc"), "c": tuple("abc")},
               {"t": (), "u": ((),) * 3, "v": ((),) * 3})
        # 4 * 4 * 4 * 4 ^ 3 = 4096, 4 * 4 * 4 * 3 ^ 3 = 1728
        limit_of(self, 4000, equations_modulo, one, 1, 16)
        self.assertTrue(equations_modulo(one, 1, 8))

    def test_two_hundred_tags(self):
        limit_of(self, 200, first_trees_modulo, bare(CHAIN), 1, 2)
        limit_of(self, 200, equations_modulo, bare(CHAIN), 1, 1000)
        limit_of(self, 200, first_break_modulo, bare(CHAIN), "k6", Form(()), 2)
        # Rows of 2 ^ n, n <= 9, only end at 512 tags, but there are no more than ten of them modulo 512.
        found = first_trees_modulo(POWER, 1, 512)["row"]
        self.assertLessEqual(max(map(size, found)), 200)


class WrongInputsTest(unittest.TestCase):
    def test_errors_in_order(self):
        for function in (first_trees_modulo, equations_modulo):
            for thing in ALIENS + (TAGS[:2],):
                self.assertRaises(NoSheet, function, thing, thing, thing)
            for thing in ALIENS + (0, 4, "1"):
                self.assertRaises(NoForm, function, TAGS, thing, None)
            for thing in ALIENS + (0, 1, 1001, -3, "2"):
                self.assertRaises(NoModulus, function, TAGS, 3, thing)
        form = Form.named("tags")
        for thing in ALIENS + (TAGS[:2],):
            self.assertRaises(NoSheet, first_break_modulo, thing, thing, thing, thing)
            self.assertRaises(NoKind, first_break_modulo, TAGS, thing, thing, thing)
            self.assertRaises(NoForm, first_break_modulo, TAGS, "tree", thing, thing)
            self.assertRaises(NoModulus, first_break_modulo, TAGS, "tree", form, thing)
        for thing in (form * form * form * form, Form.named("depth"), form.terms):
            self.assertRaises(NoForm, first_break_modulo, TAGS, "tree", thing, 0)

    def test_what_is_passed_stays(self):
        sheet = copy.deepcopy(MIXED)
        for _ in range(2):
            first_trees_modulo(sheet, 2, 6).clear()
            equations_modulo(sheet, 1, 6).clear()
            first_break_modulo(sheet, "item", Form.named("worth"), 6)
            self.assertEqual(sheet, MIXED)
        forms = [2 * A, B]
        space = ModSpace(("a", "b"), 1, 4, forms)
        forms.clear()
        space.columns().clear()
        self.assertEqual((len(space), len(space.columns())), (2, 3))
