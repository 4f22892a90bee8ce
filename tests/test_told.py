import copy
import itertools
import math
import random
import unittest
from fractions import Fraction

from oracles import DEPTHS, EMPTY, MIXED, NUMBERLESS, POWER, PRODUCTS, SHEETS, SUMS, TAGS
from oracles import all_trees, products, random_sheets, rank, search, value
from samples import ALIENS, CHAIN, comb, row
from treelaws.equations import equations
from treelaws.errors import NoForm, NoKind, NoNumber, NoSheet, TooMany
from treelaws.forms import Form
from treelaws.spaces import Space
from treelaws.told import lower_multiples, new_equations, shows_untold, told_by, untold
from treelaws.trees import is_tree

RANDOM = random_sheets(60, 4, 51) + random_sheets(40, 5, 52, most=2)
ALIKE = (TAGS[0], {"tree": ("a", "b", "c", "d", "one")}, {
    "leaf": (((1, ()),), ((2, ()),), ((5, ()),), (), ((3, ()),)),
    "join": (((1, ((0, "a"),)), (1, ((1, "a"),))), ((1, ((0, "b"),)), (1, ((1, "b"),))), ((4, ()), (1, ((0, "a"),)), (1, ((1, "a"),))),
             ((1, ()), (1, ((0, "d"),))), ((3, ()),))})


def columns_of(sheet, firsts, kind):
    """A dict from the numbers of a kind, and 1, to their values at the first trees."""
    told = [value(sheet, tree) for tree in firsts[kind]]
    return {None: [1] * len(told), **{name: [worths[name] for worths in told] for name in sheet[1][kind]}}


def told_slowly(columns, name, others):
    """What told_by returns, by solving its equation with fractions; the form as a dict."""
    kept = [None] if any(columns[None]) else []
    for other in others:
        if rank([columns[at] for at in kept + [other]]) > len(kept):
            kept.append(other)
    if rank([columns[at] for at in kept + [name]]) > len(kept):
        return None
    # One row for each first tree: kept columns, and the number.
    rows = [[Fraction(columns[at][place]) for at in kept + [name]] for place in range(len(columns[None]))]
    for at in range(len(kept)):
        pivot = next(one for one in rows[at:] if one[at])
        rows.remove(pivot)
        pivot = [worth / pivot[at] for worth in pivot]
        rows = [[x - one[at] * y for x, y in zip(one, pivot)] for one in rows]
        rows.insert(at, pivot)
    factors = [one[-1] for one in rows[:len(kept)]]
    many = math.lcm(*[factor.denominator for factor in factors])
    common = math.gcd(many, *[int(factor * many) for factor in factors])
    return many // common, {() if at is None else (at,): int(factor * many) // common for at, factor in zip(kept, factors) if factor}


class ToldTest(unittest.TestCase):
    def cases(self):
        source = random.Random(3)
        for sheet in list(SHEETS) + [ALIKE] + RANDOM:
            try:
                firsts = search(sheet, 1)
                equations(sheet, 1)
            except (TooMany, AssertionError):
                continue
            for kind, names in sheet[1].items():
                for name in names:
                    yield sheet, kind, firsts, name, tuple(other for other in names if other != name)
                    for _ in range(3):
                        yield sheet, kind, firsts, name, tuple(source.sample(names, source.randint(0, len(names))))

    def test_told_by(self):
        for sheet, kind, firsts, name, others in self.cases():
            expected = told_slowly(columns_of(sheet, firsts, kind), name, others)
            found = told_by(sheet, kind, name, others)
            if expected is None:
                self.assertIsNone(found)
            else:
                self.assertIsInstance(found, tuple)
                self.assertEqual((found[0], {names: factor for factor, names in found[1].terms}), expected)

    def test_untold(self):
        for sheet, kind, firsts, name, others in self.cases():
            found = untold(sheet, kind, name, others)
            self.assertIs(found is None, told_by(sheet, kind, name, others) is not None)
            if found is not None:
                self.assertIs(shows_untold(sheet, kind, name, others, found), True)
                self.assertTrue(all(many and is_tree(sheet[0], kind, tree) for many, tree in found))
                told = [(many, value(sheet, tree)) for many, tree in found]
                self.assertEqual(sum(many for many, _ in told), 0)
                for other in others:
                    self.assertEqual(sum(many * worths[other] for many, worths in told), 0)
                self.assertNotEqual(sum(many * worths[name] for many, worths in told), 0)

    def test_in_plain_words(self):
        self.assertIsNone(told_by(SUMS, "row", "sum", ("steps",)))
        self.assertEqual(untold(SUMS, "row", "sum", ("steps",)), ((1, row(1)), (-2, row(2)), (1, row(3))))
        self.assertEqual(told_by(TAGS, "tree", "joins", ("tags", "leaves")), (2, Form.named("tags") - 1))
        self.assertEqual(told_by(TAGS, "tree", "joins", ("leaves", "tags")), (1, Form.named("leaves") - 1))
        self.assertIsNone(told_by(TAGS, "tree", "joins", ()))
        self.assertEqual(told_by(ALIKE, "tree", "one", ("a", "b")), (1, Form.number(3)))
        self.assertEqual(told_by(ALIKE, "tree", "a", ("one", "b")), (2, Form.named("b")))
        self.assertEqual(told_by(ALIKE, "tree", "b", ("one", "a", "c")), (1, 2 * Form.named("a")))
        self.assertEqual(told_by(ALIKE, "tree", "c", ("d", "a")), (1, Form.named("a") + 4))

    def test_by_itself(self):
        self.assertEqual(told_by(SUMS, "row", "sum", ("steps", "sum")), (1, Form.named("sum")))
        self.assertEqual(told_by(ALIKE, "tree", "b", ("a", "b")), (1, 2 * Form.named("a")))
        self.assertEqual(told_by(ALIKE, "tree", "one", ("one",)), (1, Form.number(3)))
        self.assertIsNone(untold(SUMS, "row", "sum", ("sum",)))
        self.assertIs(shows_untold(SUMS, "row", "sum", ("sum",), ((1, row(1)), (-1, row(2)))), False)

    def test_empty_kinds(self):
        for others in ((), ("b",), ("b", "a"), ("a",)):
            self.assertEqual(told_by(EMPTY, "none", "a", others), (1, Form(())))
            self.assertIsNone(untold(EMPTY, "none", "a", others))
            self.assertIs(shows_untold(EMPTY, "none", "a", others, ()), False)

    def test_shows_untold(self):
        right = ((1, row(1)), (-2, row(2)), (1, row(3)))
        for thing, expected in ((right, True), (right[::-1], True), (((0, row(9)),) + right, True),
                                (((-5, row(1)), (10, row(2)), (-5, row(3))), True), (right[:2], False), ((), False),
                                (right + right, True), (((2, row(1)), (-4, row(2)), (1, row(3)), (1, row(3))), True),
                                (((1, row(1)), (-2, row(3)), (1, row(5))), True), (((1, row(1)), (-1, row(2))), False),
                                (((1, row(1)), (-2, row(2)), (1, row(4))), False), (((0, row(1)), (0, row(2))), False),
                                (list(right), False), (([1, row(1)],) + right[1:], False), (right + ((True, row(1)), (-1, row(1))), False),
                                (right + ((0, comb(3)),), False), (right + ((0,),), False), (right + (None,), False),
                                (((1, row(1)), (-2, row(201)), (1, row(401))), True)):
            self.assertIs(shows_untold(SUMS, "row", "sum", ("steps",), thing), expected, thing)
        self.assertIs(shows_untold(SUMS, "row", "sum", (), ((1, row(1)), (-1, row(3)))), True)
        self.assertIs(shows_untold(SUMS, "row", "steps", ("sum",), right), False)
        for thing in ALIENS:
            self.assertIs(shows_untold(SUMS, "row", "sum", ("steps",), thing), False)
            for at in range(3):
                for pair in ((thing, right[at][1]), (right[at][0], thing), thing):
                    self.assertIs(shows_untold(SUMS, "row", "sum", ("steps",), right[:at] + (pair,) + right[at + 1:]),
                                  pair == (-1, row(2)) and False)


class RaisesTest(unittest.TestCase):
    CALLS = (told_by, untold, lambda *given: shows_untold(*given, None))

    def test_no_kind(self):
        for kind in ALIENS + ("rows", "end", 0):
            for call in self.CALLS:
                for name, others in (("sum", ()), (None, None)):
                    with self.assertRaises(NoKind):
                        call(SUMS, kind, name, others)

    def test_no_number(self):
        for call in self.CALLS:
            for name in ALIENS + ("row", "a", 0, ("sum",)):
                with self.assertRaises(NoNumber):
                    call(SUMS, "row", name, ("steps",))
            for others in ALIENS + ("steps", ["steps"], ("steps", "steps"), ("steps", "a"), ("steps", None), {"steps": 1}, 0, (("steps",),)):
                with self.assertRaises(NoNumber):
                    call(SUMS, "row", "sum", others)
            with self.assertRaises(NoNumber):
                call(MIXED, "item", "len", ())
            with self.assertRaises(NoNumber):
                call(NUMBERLESS, "tree", "tags", ())

    def test_too_many(self):
        large = (CHAIN, {kind: ("a",) if kind == "k6" else () for kind in CHAIN}, {f"t{n}": () for n in range(1, 6)} | {"t6": ((),)})
        for call in (told_by, untold):
            with self.assertRaises(TooMany) as caught:
                call(large, "k6", "a", ())
            self.assertEqual(caught.exception.limit, 200)
            with self.assertRaises(NoNumber):
                call(large, "k6", "a", ("b",))
        self.assertIs(shows_untold(large, "k6", "a", (), ((1, ("t6",)),)), False)

    def test_multiples_and_new_equations(self):
        wide = ({"k": (("u", ("k", "k", "k")),)}, {"k": tuple("abcde")}, {"u": ((),) * 5})
        large = (CHAIN, {kind: () for kind in CHAIN}, {f"t{n}": () for n in range(1, 7)})
        for call in (lower_multiples, new_equations):
            for thing in ALIENS + (TAGS[:2], 0):
                for kind, degree in (("tree", 1), (None, None)):
                    with self.assertRaises(NoSheet):
                        call(thing, kind, degree)
            for degree in ALIENS + (0, 4, True):
                for kind in ("row", None):
                    with self.assertRaises(NoForm):
                        call(SUMS, kind, degree)
            for kind in ("k", None):
                with self.assertRaises(TooMany) as caught:
                    call(wide, kind, 3)
                self.assertEqual(caught.exception.limit, 4000)
            for kind in ALIENS + ("rows", "end", 0):
                with self.assertRaises(NoKind):
                    call(SUMS, kind, 1)
                with self.assertRaises(NoKind):
                    call(large, kind, 1)
            with self.assertRaises(TooMany) as caught:
                call(large, "k6", 1)
            self.assertEqual(caught.exception.limit, 200)

    def test_what_is_passed_stays(self):
        sheet = copy.deepcopy(SUMS)
        told_by(sheet, "row", "sum", ("steps",))
        untold(sheet, "row", "sum", ("steps",))
        lower_multiples(sheet, "row", 2)
        new_equations(sheet, "row", 2)
        self.assertEqual(sheet, SUMS)


class NewEquationsTest(unittest.TestCase):
    def test_by_definition(self):
        for sheet in list(SHEETS) + random_sheets(60, 3, 53):
            for degree in (1, 2, 3):
                try:
                    found = [equations(sheet, lesser) for lesser in range(1, degree + 1)]
                except TooMany:
                    continue
                for kind, names in sheet[1].items():
                    forms = [form * Form(((1, product),)) for at, spaces in enumerate(found[:-1]) for form in spaces[kind].basis
                             for product in products(names, degree - at - 1)]
                    lower = Space(names, degree, forms)
                    self.assertEqual(lower_multiples(sheet, kind, degree), lower)
                    self.assertIs(lower.within(found[-1][kind]), True)
                    left = Space(names, degree, [lower.rest(form)[1] for form in found[-1][kind].basis])
                    self.assertEqual(new_equations(sheet, kind, degree), left.basis)
                    self.assertEqual(len(left) + len(lower), len(found[-1][kind]))

    def test_in_plain_words(self):
        self.assertEqual([str(form) for form in new_equations(SUMS, "row", 2)], ["steps*steps - steps - 2*sum"])
        self.assertEqual([str(form) for form in new_equations(SUMS, "row", 3)], [])
        self.assertEqual([str(form) for form in new_equations(TAGS, "tree", 1)], ["2*joins - tags + 1", "2*leaves - tags - 1"])
        for degree in (2, 3):
            self.assertEqual(new_equations(TAGS, "tree", degree), ())
        self.assertEqual(lower_multiples(TAGS, "tree", 1), Space(TAGS[1]["tree"], 1, []))
        self.assertEqual(len(lower_multiples(SUMS, "row", 3)), 3)

    def test_empty_kinds_and_kinds_without_numbers(self):
        self.assertEqual([str(form) for form in new_equations(EMPTY, "none", 1)], ["a", "b", "1"])
        for degree in (2, 3):
            self.assertEqual(new_equations(EMPTY, "none", degree), ())
            self.assertEqual(len(lower_multiples(EMPTY, "none", degree)), len(products("ab", degree)))
            self.assertEqual(new_equations(NUMBERLESS, "tree", degree), ())
        self.assertEqual(new_equations(POWER, "row", 3), ())
        self.assertEqual(new_equations(PRODUCTS, "tree", 1), ())
        self.assertEqual(len(lower_multiples(DEPTHS, "tree", 2)), 0)

    def test_hold_at_small_trees(self):
        for sheet in (SUMS, TAGS, MIXED):
            trees, _ = all_trees(sheet, 60)
            for kind, degree in itertools.product(sheet[0], (1, 2, 3)):
                for form in new_equations(sheet, kind, degree) + lower_multiples(sheet, kind, degree).basis:
                    self.assertFalse(any(form(value(sheet, tree)) for tree in trees[kind]))
