import copy
import itertools
import math
import random
import unittest
from fractions import Fraction

from oracles import Rows, null_rows, products, rank
from samples import ALIENS
from treelaws.errors import Mismatch, NoForm
from treelaws.forms import Form
from treelaws.spaces import Space

X, Y = Form.named("x"), Form.named("y")
FACTORS = (1, 1, -1, 2, -2, 3, 4, 6, -12, 0, 10 ** 9, -7 * 10 ** 12)


def row_of(form, columns):
    factors = {names: factor for factor, names in form.terms}
    return [factors.get(names, 0) for names in columns]


def echelon(rows, columns):
    """The basis of point 9 by fractions: a list of the terms of its forms."""
    # null_rows of null_rows is the reduced echelon, but for the order in which it looks for first columns.
    turned = [list(one)[::-1] for one in rows]
    width = len(columns)
    basis = [one[::-1] for one in null_rows(null_rows(turned, width), width)]
    found = []
    for one in basis[::-1]:
        common = math.lcm(*[worth.denominator for worth in one])
        whole = [int(worth * common) for worth in one]
        common = math.gcd(*whole)
        first = next(worth for worth in whole if worth)
        whole = [worth // common if first > 0 else -worth // common for worth in whole]
        found.append(tuple((worth, names) for worth, names in zip(whole, columns) if worth))
    return found


def random_form(source, columns, many=4):
    return Form([(source.choice(FACTORS), source.choice(columns)) for _ in range(source.randint(0, many))])


def random_forms(source, columns):
    """Forms, some of them sums of others, alike, or 0."""
    forms = [random_form(source, columns) for _ in range(source.randint(0, 6))]
    for _ in range(source.randint(0, 3)):
        if forms:
            forms.append(source.choice(forms) * source.choice((1, 2, -3)) + source.choice(forms) * source.choice((0, 1, -1)))
    source.shuffle(forms)
    return forms


def cases(many, seed):
    source = random.Random(seed)
    for _ in range(many):
        names = tuple(source.sample(("x", "y", "a1", "b", "x2"), source.randint(0, 4)))
        degree = source.randint(0, 3)
        columns = products(names, degree)
        yield source, names, degree, columns, random_forms(source, columns)


class SpaceTest(unittest.TestCase):
    def test_basis(self):
        for _, names, degree, columns, forms in cases(250, 1):
            for outer in (list, tuple):
                space = Space(names, degree, outer(forms))
                self.assertEqual(space.names, tuple(sorted(names)))
                self.assertEqual(space.degree, degree)
                self.assertIsInstance(space.basis, tuple)
                self.assertEqual([form.terms for form in space.basis], echelon([row_of(form, columns) for form in forms], columns))
                self.assertEqual(len(space), len(space.basis))
                self.assertIs(bool(space), bool(space.basis))
                self.assertEqual(space.columns(), columns)
                firsts = [form.terms[0][1] for form in space.basis]
                self.assertEqual(space.free(), [names for names in columns if names not in firsts])

    def test_in_plain_words(self):
        one, other = Space(("x", "y"), 1, [2 * X + 4 * Y, 3 * X - 3]), Space(("y", "x"), 1, [X + 2 * Y, Y + 7])
        self.assertEqual([[str(form) for form in space.basis] for space in (one, one & other, one | other)],
                         [["x - 1", "2*y + 1"], ["x + 2*y"], ["x", "y", "1"]])
        self.assertEqual(str(one.rest(2 * X + Y - 1)[1]), "1")
        self.assertEqual(one.columns(), [("x",), ("y",), ()])
        self.assertEqual(one.free(), [()])
        self.assertEqual(Space(("y", "x"), 2, ()).columns(), [("x", "x"), ("x", "y"), ("y", "y"), ("x",), ("y",), ()])
        self.assertEqual(Space((), 3, [Form.number(-8)]).basis, (Form.number(1),))

    def test_rest(self):
        for source, names, degree, columns, forms in cases(200, 2):
            space = Space(names, degree, forms)
            firsts = [form.terms[0][1] for form in space.basis]
            span = Rows()
            for form in space.basis:
                span.take(row_of(form, columns))
            for form in [random_form(source, columns) for _ in range(4)] + forms:
                many, rest = space.rest(form)
                expected = [Fraction(factor) for factor in row_of(form, columns)]
                for basis in space.basis:
                    first = columns.index(basis.terms[0][1])
                    times = expected[first] / row_of(basis, columns)[first]
                    expected = [one - times * other for one, other in zip(expected, row_of(basis, columns))]
                self.assertEqual(many, math.lcm(*[worth.denominator for worth in expected]))
                self.assertEqual(row_of(rest, columns), [worth * many for worth in expected])
                self.assertFalse([names for _, names in rest.terms if names in firsts])
                self.assertIs(form in space, not any(span.rest(row_of(form, columns))))
                self.assertIs(form in space, not rest.terms)

    def test_rest_in_plain_words(self):
        space = Space(("x", "y"), 1, [6 * X + 4 * Y + 3])
        self.assertEqual([(many, str(rest)) for many, rest in map(space.rest, (X, 6 * X, 2 * X, 3 * X + 2 * Y, Y, Form(())))],
                         [(6, "-4*y - 3"), (1, "-4*y - 3"), (3, "-4*y - 3"), (2, "-3"), (1, "y"), (1, "0")])
        self.assertEqual(space.rest(-12 * X - 8 * Y - 6), (1, Form(())))

    def test_sums_and_common_forms(self):
        for source, names, degree, columns, forms in cases(200, 3):
            one = Space(names, degree, forms)
            others = random_forms(source, columns) + [source.choice(forms)] if forms else random_forms(source, columns)
            other = Space(tuple(reversed(names)), degree, others)
            joined, common = one | other, one & other
            rows = [[row_of(form, columns) for form in space.basis] for space in (one, other)]
            self.assertEqual([form.terms for form in joined.basis], echelon(rows[0] + rows[1], columns))
            self.assertEqual(len(common), len(one) + len(other) - rank(rows[0] + rows[1]))
            self.assertTrue(all(form in one and form in other for form in common.basis))
            self.assertEqual([form.terms for form in common.basis],
                             echelon([row_of(form, columns) for form in common.basis], columns))
            for space in (joined, common):
                self.assertEqual((space.names, space.degree), (tuple(sorted(names)), degree))
            self.assertIs(one.within(joined) and common.within(one) and common.within(other), True)
            self.assertIs(joined.within(one), len(joined) == len(one))
            self.assertIs(one.within(other), len(joined) == len(other))
            self.assertEqual(other | one, joined)
            self.assertEqual(other & one, common)
            self.assertIs(one == other, len(joined) == len(one) == len(other))
            self.assertIs(one != other, not one == other)
            self.assertEqual((one | one, one & one), (one, one))

    def test_in_place(self):
        one, other = Space(("x", "y"), 1, [X - 1, Y]), Space(("x", "y"), 1, [Y, X])
        space, kept = one, one
        space |= other
        self.assertEqual(space, one | other)
        space &= other
        self.assertEqual(space, other)
        self.assertEqual(kept.basis, (X - 1, Y))

    def test_equal(self):
        space = Space(("x", "y"), 1, [X - Y])
        self.assertEqual(space, Space(("y", "x"), 1, (2 * Y - 2 * X, Form(()))))
        for other in (Space(("x", "y"), 2, [X - Y]), Space(("x", "y", "z"), 1, [X - Y]), Space(("x", "y"), 1, [X + Y]),
                      Space(("x", "y"), 1, [])):
            self.assertIs(space == other, False)
            self.assertIs(space != other, True)
        for thing in ALIENS + (space.basis, X - Y, (space.names, space.degree, space.basis), 0):
            self.assertIs(space == thing, False)
            self.assertIs(thing == space, False)

    def test_many_forms_and_large_factors(self):
        source = random.Random(5)
        columns = products(("a", "b", "c", "d"), 3)
        forms = [Form([(source.randint(-10 ** 6, 10 ** 6), names) for names in columns]) for _ in range(30)]
        space = Space(("a", "b", "c", "d"), 3, forms + forms[::-1])
        self.assertEqual(len(space), 30)
        self.assertTrue(all(form in space for form in forms))
        self.assertEqual([form.terms[0][1] for form in space.basis], columns[:30])
        self.assertEqual(len(space & Space(space.names, 3, forms[:7])), 7)
        full = Space(space.names, 3, [Form(((1, names),)) for names in columns])
        self.assertEqual((full & space, full | space), (space, full))
        self.assertEqual(full.free(), [])

    def test_many_names(self):
        names = tuple(f"n{n}" for n in range(400))
        space = Space(names, 3, [Form.named(name) - 2 for name in names])
        self.assertEqual(len(space), 400)
        self.assertEqual(space.rest(Form.named("n7") * 3)[1], Form.number(6))


class WrongSpacesTest(unittest.TestCase):
    def no(self, *arguments):
        with self.assertRaises(NoForm):
            Space(*arguments)

    def test_names(self):
        for names in ALIENS + (["x"], "x", ("x", "x"), ("x", "Y"), ("x", 1), {"x": 1}, X, ("x", ("y",)), 0):
            self.no(names, 1, [])
            self.no(names, None, None)
        self.assertEqual(Space((), 0, []).columns(), [()])

    def test_degrees(self):
        for degree in ALIENS + (4, -1, True, False, "1", (1,), X):
            self.no(("x",), degree, [])
            self.no(("x",), degree, None)
        for degree in range(4):
            self.assertEqual(Space(("x",), degree, []).degree, degree)

    def test_forms(self):
        for forms in ALIENS + (0, X, {"x": X}, X.terms, Space(("x",), 1, [])):
            if not isinstance(forms, list) or forms:
                self.no(("x", "y"), 1, forms)
        for form in ALIENS + (0, 1, ((1, ("x",)),), "x", X * Y, X * X, Form.named("z"), X + Form.named("z"), Space(("x",), 1, [])):
            self.no(("x", "y"), 1, [form])
            self.no(("x", "y"), 1, (X, form))
            self.no(("x", "y"), 1, (form, X))
        self.no(("x",), 0, [X])
        self.no(("x",), 2, [X * X * X])
        self.no(("x",), 3, [X * X * X * X])
        self.assertEqual(len(Space(("x",), 3, [X * X * X])), 1)

    def test_no_form_of_the_space(self):
        space = Space(("x", "y"), 2, [X - Y])
        for thing in ALIENS + (0, 1, X * X * Y, Form.named("z"), space, X.terms, "x"):
            with self.assertRaises(Mismatch):
                space.rest(thing)
            with self.assertRaises(Mismatch):
                thing in space

    def test_no_space_of_the_same_kind(self):
        space = Space(("x", "y"), 2, [X - Y])
        for thing in ALIENS + (0, X, space.basis, Space(("x", "y"), 1, [X - Y]), Space(("x",), 2, []), Space(("x", "z"), 2, []),
                               Space(("x", "y", "z"), 2, [X - Y])):
            for call in (lambda: space.within(thing), lambda: space | thing, lambda: space & thing):
                with self.assertRaises(Mismatch):
                    call()
            in_place = space
            with self.assertRaises(Mismatch):
                in_place |= thing
            with self.assertRaises(Mismatch):
                in_place &= thing

    def test_what_is_passed_stays_and_lists_are_new(self):
        forms = [2 * X, Y * 0, X]
        space = Space(("y", "x"), 1, forms)
        self.assertEqual(forms, [2 * X, Y * 0, X])
        forms.clear()
        self.assertEqual(space.basis, (X,))
        for call in (space.columns, space.free):
            first = call()
            kept = copy.deepcopy(first)
            first.clear()
            self.assertEqual(call(), kept)
        other = Space(("x", "y"), 1, [Y])
        for _ in (space | other, space & other, space.rest(X + Y), space.within(other)):
            self.assertEqual((space.basis, other.basis), ((X,), (Y,)))
