import copy
import random
import unittest

from oracles import DEPTHS, EMPTY, NUMBERLESS, POWER, SHEETS, SUMS, TAGS
from oracles import all_trees, products, random_sheets, search, value, value_of
from samples import ALIENS, CHAIN, comb, row
from treelaws.breaks import all_breaks, first_break, first_breaks, holds
from treelaws.equations import equations
from treelaws.errors import NoForm, NoKind, TooMany
from treelaws.forms import Form
from treelaws.spaces import Space

RANDOM = [sheet for sheet in random_sheets(70, 3, 41) if len(sheet[0]) < 3]
STEPS, POW = Form.named("steps"), Form.named("power")


def random_form(source, sheet, kind, degree, spaces):
    """A form of a kind's numbers: any one, an equation, or an equation with something added."""
    columns = products(sheet[1][kind], degree)
    form = Form([(source.choice((1, -1, 2, 3)), source.choice(columns)) for _ in range(source.randint(0, 3))])
    basis = spaces[kind].basis
    if basis and source.random() < 0.6:
        some = source.choice(basis) * source.choice((1, 2)) - source.choice(basis)
        form = some if source.random() < 0.5 else some + form * source.choice((0, 1))
    return form


class BreaksTest(unittest.TestCase):
    def test_against_all_first_trees(self):
        source = random.Random(2)
        for sheet in list(SHEETS) + RANDOM:
            for degree in (1, 2):
                try:
                    spaces, firsts = equations(sheet, degree), search(sheet, degree)
                except TooMany:
                    continue
                trees, _ = all_trees(sheet, 60)
                for kind in sheet[0]:
                    forms = tuple(random_form(source, sheet, kind, degree, spaces) for _ in range(source.randint(0, 4)))
                    self.check(sheet, kind, forms, firsts[kind], trees[kind])

    def check(self, sheet, kind, forms, firsts, trees):
        def first(form, some):
            return next((tree for tree in some if value_of(form.terms, value(sheet, tree))), None)
        expected = [first(form, firsts) for form in forms]
        self.assertEqual(all_breaks(sheet, kind, forms), expected)
        for form, tree in zip(forms, expected):
            self.assertEqual(first_break(sheet, kind, form), tree)
            self.assertIs(holds(sheet, kind, form), tree is None)
            small = first(form, trees)
            self.assertTrue(small == tree or small is None and tree not in trees)
        found = [tree for tree in expected if tree is not None]
        if not found:
            self.assertIsNone(first_breaks(sheet, kind, forms))
        else:
            tree = next(tree for tree in firsts if tree in found)
            places = tuple(at for at, form in enumerate(forms) if value_of(form.terms, value(sheet, tree)))
            self.assertEqual(first_breaks(sheet, kind, forms), (tree, places))

    def test_in_plain_words(self):
        self.assertEqual(first_breaks(POWER, "row", (POW - STEPS - 1, STEPS * STEPS - STEPS)), (row(3), (0, 1)))
        self.assertEqual(all_breaks(POWER, "row", (STEPS, POW)), [row(2), row(1)])
        self.assertIs(holds(POWER, "row", POW - 2 * STEPS), False)
        self.assertIs(holds(TAGS, "tree", 2 * Form.named("leaves") - Form.named("tags") - 1), True)
        self.assertEqual(first_breaks(POWER, "row", (STEPS - STEPS, POW - 1, STEPS, POW - 1)), (row(2), (1, 2, 3)))
        self.assertEqual(first_break(POWER, "row", STEPS * (STEPS - 1) * (STEPS - 2)), row(4))
        self.assertEqual(first_break(DEPTHS, "tree", Form.named("depth") - Form.named("leaves") + 1),
                         ("join", ("leaf",), comb(3)))

    def test_no_forms_and_forms_without_terms(self):
        for sheet in SHEETS:
            for kind in sheet[0]:
                self.assertIsNone(first_breaks(sheet, kind, ()))
                self.assertEqual(all_breaks(sheet, kind, ()), [])
                self.assertEqual(all_breaks(sheet, kind, (Form(()), Form(()))), [None, None])
                self.assertIs(holds(sheet, kind, Form(())), True)

    def test_empty_kinds_and_constants(self):
        forms = (Form.named("a"), Form.number(3), Form.named("a") * Form.named("b"))
        self.assertIsNone(first_breaks(EMPTY, "none", forms))
        self.assertEqual(all_breaks(EMPTY, "none", forms), [None, None, None])
        self.assertEqual(first_breaks(NUMBERLESS, "tree", (Form(()), Form.number(-1))), (("leaf",), (1,)))

    def test_forms_in_other_degrees_together(self):
        # x is 0 at all but the trees that only a higher degree tells apart from the others.
        forms = (STEPS * STEPS - 3 * STEPS + 2, STEPS - 5, Form.number(0), STEPS * STEPS * STEPS)
        self.assertEqual(all_breaks(POWER, "row", forms), [row(1), row(1), None, row(2)])


class RaisesTest(unittest.TestCase):
    def calls(self, sheet, kind, form):
        yield lambda: first_breaks(sheet, kind, (form,))
        yield lambda: all_breaks(sheet, kind, (form,))
        yield lambda: first_break(sheet, kind, form)
        yield lambda: holds(sheet, kind, form)

    def test_no_kind(self):
        for kind in ALIENS + (0, "rows", "end", ("row",), STEPS):
            for form in (STEPS, None):
                for call in self.calls(SUMS, kind, form):
                    with self.assertRaises(NoKind):
                        call()
            for call in (first_breaks, all_breaks):
                with self.assertRaises(NoKind):
                    call(SUMS, kind, None)

    def test_no_form(self):
        for form in ALIENS + (0, 1, "steps", STEPS.terms, POW, STEPS + POW, STEPS * STEPS * STEPS * STEPS, Space((), 0, []), (STEPS,)):
            for call in self.calls(SUMS, "row", form):
                with self.assertRaises(NoForm):
                    call()
            for call in (first_breaks, all_breaks):
                with self.assertRaises(NoForm):
                    call(SUMS, "row", (STEPS, form))

    def test_no_tuple_of_forms(self):
        for forms in ALIENS + ([STEPS], STEPS, {0: STEPS}, 0, "steps"):
            for call in (first_breaks, all_breaks):
                if forms != () or not isinstance(forms, tuple):
                    with self.assertRaises(NoForm):
                        call(SUMS, "row", forms)

    def test_too_many(self):
        wide = ({"k": (("t", ()), ("u", ("k", "k")))}, {"k": tuple("abcdef")}, {"t": ((),) * 6, "u": ((),) * 6})
        a = Form.named("a")
        self.assertIsNone(first_breaks(wide, "k", (a, a * a)))
        for call in self.calls(wide, "k", a * a * a):
            with self.assertRaises(TooMany) as caught:
                call()
            self.assertEqual(caught.exception.limit, 4000)
        with self.assertRaises(TooMany):
            all_breaks(wide, "k", (a, a * a * a, a))
        with self.assertRaises(NoForm):
            all_breaks(wide, "k", (a, a * a * a, None))
        large = (CHAIN, {kind: () for kind in CHAIN}, {f"t{n}": () for n in range(1, 7)})
        for kind in ("k1", "k6"):
            for call in list(self.calls(large, kind, Form.number(0))) + [lambda: first_breaks(large, kind, ()),
                                                                         lambda: all_breaks(large, kind, ())]:
                with self.assertRaises(TooMany) as caught:
                    call()
                self.assertEqual(caught.exception.limit, 200)

    def test_what_is_passed_stays_and_the_list_is_new(self):
        sheet = copy.deepcopy(SUMS)
        found = all_breaks(sheet, "row", (STEPS,))
        found.clear()
        self.assertEqual(all_breaks(sheet, "row", (STEPS,)), [row(2)])
        first_breaks(sheet, "row", (STEPS,))
        self.assertEqual(sheet, SUMS)
