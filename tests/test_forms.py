import copy
import functools
import itertools
import random
import unittest

from oracles import value_of
from samples import ALIENS, with_aliens
from treelaws.errors import NoForm, TooMany
from treelaws.forms import Form

X, Y = Form.named("x"), Form.named("y")
FACTORS = (1, 1, -1, 2, -3, 0, 10 ** 6, -10 ** 30)


def random_terms(source, names=("x", "y", "z1"), most=4, many=6):
    return [(source.choice(FACTORS), tuple(source.choice(names) for _ in range(source.randint(0, most))))
            for _ in range(source.randint(0, many))]


def summed(terms):
    """A dict from products to factors other than 0, like products added up."""
    found = {}
    for factor, names in terms:
        key = tuple(sorted(names))
        found[key] = found.get(key, 0) + factor
    return {key: factor for key, factor in found.items() if factor}


def in_order(found):
    return tuple((found[names], names) for names in sorted(found, key=lambda names: (-len(names), names)))


def compare(one, other):
    """Below, at or above 0, as point 8 orders two forms, by their terms."""
    def degree(terms):
        return len(terms[0][1]) if terms else -1
    if degree(one) != degree(other):
        return degree(one) - degree(other)
    for (factor, names), (times, more) in zip(one, other):
        if len(names) != len(more):
            return len(more) - len(names)
        if names != more:
            return -1 if names < more else 1
        if factor != times:
            return -1 if factor < times else 1
    return len(one) - len(other)


class FormTest(unittest.TestCase):
    def setUp(self):
        self.source = random.Random(8)
        self.forms = [Form(random_terms(self.source)) for _ in range(150)] + [Form(()), X, Form.number(-1)]

    def test_terms_degree_and_names(self):
        for _ in range(400):
            terms = random_terms(self.source)
            for outer in (list, tuple):
                form = Form(outer(terms))
                found = summed(terms)
                self.assertEqual(form.terms, in_order(found))
                self.assertIsInstance(form.terms, tuple)
                self.assertEqual(form.degree, max([len(names) for names in found], default=-1))
                self.assertEqual(form.names, tuple(sorted({name for names in found for name in names})))
                self.assertIs(bool(form), bool(found))
                self.assertEqual(len(form), len(found))
                for name in ("x", "y", "z1", "z"):
                    self.assertIs(name in form, any(name in names for names in found))
                self.assertEqual(Form(form.terms), form)

    def test_in_plain_words(self):
        form = (X + 2) * (X - Y) - 3
        self.assertEqual([str(form), form.terms, form.degree, len(form), "y" in form, form({"x": 1, "y": 5}), str(5 - Y * 0)], [
            "x*x - x*y + 2*x - 2*y - 3", ((1, ("x", "x")), (-1, ("x", "y")), (2, ("x",)), (-2, ("y",)), (-3, ())), 2, 5,
            True, -15, "5"])
        self.assertEqual(Form(((1, ("b", "a")), (2, ()), (3, ("a", "b")), (4, ("b",)), (-2, ()))).terms,
                         ((4, ("a", "b")), (4, ("b",))))

    def test_static_methods(self):
        self.assertEqual(X.terms, ((1, ("x",)),))
        self.assertEqual([Form.number(n).terms for n in (0, 1, -7)], [(), ((1, ()),), ((-7, ()),)])
        self.assertEqual(X.named("q").terms, Form.named("q").terms)
        with self.assertRaises(NoForm):
            Form.named("Q")

    def test_what_is_in(self):
        form = X * Y + 3
        for thing in ALIENS + (0, "x*y", ("x",), "xx", form):
            self.assertIs(thing in form, False)

    def test_arithmetic(self):
        def added(one, other, times=1):
            return in_order(summed(list(one) + [(times * factor, names) for factor, names in other]))

        def multiplied(one, other):
            return in_order(summed([(a * b, m + n) for a, m in one for b, n in other]))
        for one, other in itertools.islice(zip(self.forms, self.forms[7:] + self.forms[:7]), 150):
            self.assertEqual((one + other).terms, added(one.terms, other.terms))
            self.assertEqual((one - other).terms, added(one.terms, other.terms, -1))
            self.assertEqual((one * other).terms, multiplied(one.terms, other.terms))
            self.assertEqual((-one).terms, added((), one.terms, -1))
        for form in self.forms:
            for n in (0, 1, -1, 5, -10 ** 20):
                number = ((n, ()),)
                self.assertEqual((form + n).terms, added(form.terms, number))
                self.assertEqual((n + form).terms, added(form.terms, number))
                self.assertEqual((form - n).terms, added(form.terms, number, -1))
                self.assertEqual((n - form).terms, added(number, form.terms, -1))
                self.assertEqual((form * n).terms, multiplied(form.terms, number))
                self.assertEqual((n * form).terms, multiplied(form.terms, number))

    def test_in_place(self):
        form = X + 1
        kept = form
        form += Y
        self.assertEqual(form, X + Y + 1)
        form -= 3
        self.assertEqual(form, X + Y - 2)
        form *= form
        self.assertEqual(form, (X + Y - 2) * (X + Y - 2))
        form *= 2
        self.assertEqual(form.terms[0], (2, ("x", "x")))
        self.assertEqual(kept, X + 1)

    def test_with_other_objects(self):
        for thing in (None, "x", (), [], {}, ((1, ("x",)),)):
            for call in (lambda: X + thing, lambda: thing + X, lambda: X - thing, lambda: X * thing, lambda: X < thing):
                with self.assertRaises(TypeError):
                    call()

    def test_equal(self):
        for one, other in itertools.product(self.forms[:40], repeat=2):
            self.assertIs(one == other, one.terms == other.terms)
            self.assertIs(one != other, one.terms != other.terms)
        for form in self.forms + [Form.number(1), Form.number(0)]:
            self.assertIs(form == Form(list(form.terms)[::-1]), True)
            for thing in ALIENS + (0, 1, "x", form.terms, str(form), [form], (), X.names):
                self.assertIs(form == thing, False)
                self.assertIs(thing == form, False)
                self.assertIs(form != thing, True)

    def test_order(self):
        forms = self.forms + [Form(form.terms[:2]) for form in self.forms] + [form + 1 for form in self.forms[:50]]
        for one, other in itertools.islice(itertools.product(forms[::3], forms), 20000):
            order = compare(one.terms, other.terms)
            self.assertEqual([one < other, one <= other, one > other, one >= other, one == other],
                             [order < 0, order <= 0, order > 0, order >= 0, order == 0])
        expected = sorted(forms, key=functools.cmp_to_key(lambda one, other: compare(one.terms, other.terms)))
        self.assertEqual([form.terms for form in sorted(forms)], [form.terms for form in expected])

    def test_order_in_plain_words(self):
        ascending = [Form(()), Form.number(-5), Form.number(2), -2 * X, X, X - 1, X + 1, X + Y - 1, X + Y, 2 * X, Y, X * X + X,
                     X * X + 1, X * X, X * Y, Y * Y - 7, X * X * X]
        order = sorted(ascending[::-1])
        self.assertEqual([str(form) for form in order], [
            "0", "-5", "2", "-2*x", "x", "x + y", "x + y - 1", "x - 1", "x + 1", "2*x", "y",
            "x*x", "x*x + x", "x*x + 1", "x*y", "y*y - 7", "x*x*x"])

    def test_values(self):
        for form in self.forms:
            for told in ({"x": 2, "y": -3, "z1": 10 ** 12}, {"x": 0, "y": 1, "z1": 5, "more": 3}):
                self.assertEqual(form(told), value_of(form.terms, told))
            for name in form.names:
                told = {other: 0 for other in ("x", "y", "z1") if other != name}
                before = dict(told)
                with self.assertRaises(NoForm):
                    form(told)
                self.assertEqual(told, before)
        self.assertEqual(Form.number(4)({}), 4)
        self.assertEqual((X - X)({}), 0)
        with self.assertRaises(NoForm):
            (0 * Y + X)({"y": 3})

    def test_text(self):
        for terms, text in (((), "0"), (((1, ()),), "1"), (((-1, ()),), "-1"), (((-1, ("x",)),), "-x"), (((1, ("x",)),), "x"),
                            (((-12, ("b", "a")), (1, ("c",)), (-1, ("d",)), (1, ())), "-12*a*b + c - d + 1"),
                            (((3, ("a", "a", "a")), (-1, ("a",)), (-1, ())), "3*a*a*a - a - 1"),
                            (((0, ("x",)), (10 ** 25, ("y",))), "10000000000000000000000000*y")):
            self.assertEqual(str(Form(terms)), text)


class NoFormTest(unittest.TestCase):
    def no(self, thing):
        with self.assertRaises(NoForm):
            Form(thing)

    def test_other_objects(self):
        for thing in ALIENS + (0, "x", X, {}, {"a": 1}, ((1, "x"),), (1, ("x",))):
            if not isinstance(thing, list) or thing:
                self.no(thing)

    def test_other_terms(self):
        for term in ALIENS + ((1,), (1, ("x",), 2), [1, ("x",)], (1, ["x"]), (1, "x"), (True, ("x",)), (False, ()), (None, ()),
                              ("1", ()), (1, ("X",)), (1, ("toolongaa",)), (1, ("",)), (1, (1,)), (1, (("x",),)), (1, None),
                              (("x",), 1), X, (X, ()), (1, (X,)), (1, ("x", ["y"]))):
            for terms in ([term], (term,), [(1, ("x",)), term], (term, (0, ()))):
                self.no(terms)

    def test_changed_at_one_place(self):
        terms = ((1, ("x", "y")), (-2, ("x",)), (3, ()))
        right = {repr(terms[:at] + ((factor, names),) + terms[at + 1:])
                 for at, (_, names) in enumerate(terms) for factor in (-1, 10 ** 30)} | {"[]"}
        for changed in with_aliens(terms):
            if repr(changed) in right:
                self.assertEqual(Form(changed).terms, in_order(summed(changed)))
            else:
                self.no(changed)

    def test_degree_twelve(self):
        self.assertEqual(Form(((1, ("x",) * 12),)).degree, 12)
        six = Form(((1, ("x",) * 6), (2, ("y",) * 6)))
        self.assertEqual((six * six).degree, 12)
        self.assertEqual(((six * six) * 3 + six).degree, 12)
        for call in (lambda: Form(((1, ("x",) * 13),)), lambda: Form([(1, ()), (1, ("x", "y") * 10)]),
                     lambda: six * six * X, lambda: X * (six * six), lambda: (six * six) * (six * six), lambda: six * (six * Y)):
            with self.assertRaises(TooMany) as caught:
                call()
            self.assertEqual(caught.exception.limit, 12)
        in_place = six * six
        with self.assertRaises(TooMany):
            in_place *= X
        self.assertEqual(in_place, six * six)

    def test_degree_of_what_is_left(self):
        thirteen = ("x",) * 13
        self.assertEqual(Form(((0, thirteen), (1, ("x",)))).degree, 1)
        self.assertEqual(Form(((2, thirteen), (-2, thirteen))).terms, ())
        self.assertEqual((Form(((1, thirteen[1:]),)) * 0).terms, ())
        self.assertEqual((Form(((1, thirteen[1:]),)) * (X - X)).terms, ())

    def test_no_form_ahead_of_too_many(self):
        self.no(((1, ("x",) * 13), (1, ("X",))))
        self.no(((1, ("x",) * 13), None))

    def test_what_is_passed_stays(self):
        terms = [(1, ("y", "x")), (0, ()), (2, ("x", "y"))]
        form = Form(terms)
        self.assertEqual(terms, [(1, ("y", "x")), (0, ()), (2, ("x", "y"))])
        terms.clear()
        self.assertEqual(form.terms, ((3, ("x", "y")),))
        told = {"x": 2, "y": 3}
        before = copy.deepcopy(told)
        form(told)
        self.assertEqual(told, before)
