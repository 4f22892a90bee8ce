import copy
import itertools
import math
import random
import unittest

from oracles import EMPTY, MIXED, NUMBERLESS, SHEETS, SUMS, TAGS
from oracles import all_trees, null_rows, products, random_sheets, rank, search, value, value_of
from oracles import row as row_of
from samples import ALIENS, CHAIN, TERNARY, with_aliens
from test_told import ALIKE
from treelaws.bends import bends_within, blind_changes, distance, noticed_by, sure_numbers
from treelaws.equations import equations
from treelaws.errors import Mismatch, NoForm, NoKind, NoNumber, NoSheet, TooMany
from treelaws.stored import cheapest_sets, is_enough

RANDOM = random_sheets(40, 4, 111) + random_sheets(15, 4, 112, most=1) + random_sheets(10, 5, 113, factors=(1, 2), most=2)


def subsets(names):
    return [some for many in range(len(names) + 1) for some in itertools.combinations(names, many)]


def is_reduced(rows):
    """Whether rows of integers are a reduced echelon as point 18 tells it."""
    places = [next(place for place, worth in enumerate(row) if worth) for row in rows]
    return (places == sorted(set(places)) and all(row[place] > 0 and math.gcd(*row) == 1 for row, place in zip(rows, places))
            and all(not other[place] for place in places for other in rows if other[place] and rows[places.index(place)] != other))


def linear_parts(sheet, kind, firsts):
    """Rows of the factors of the numbers, in the order of the names, in equations that generate all of degree 1."""
    names = sheet[1][kind]
    order = products(names, 1)
    rows = null_rows([row_of(names, 1, value(sheet, tree)) for tree in firsts[kind]], len(order))
    return [[row[order.index((name,))] for name in names] for row in rows]


def kinds():
    for sheet in list(SHEETS) + [ALIKE] + RANDOM:
        try:
            firsts = search(sheet, 1)
        except AssertionError:
            continue
        for kind in sheet[1]:
            yield sheet, kind, linear_parts(sheet, kind, firsts)


class BendsTest(unittest.TestCase):
    def test_bends_within_against_all_small_bends(self):
        source = random.Random(2)
        for sheet, kind, parts in kinds():
            names = sheet[1][kind]
            for some in subsets(names) if len(names) < 4 else source.sample(subsets(names), 6):
                found = bends_within(sheet, kind, tuple(source.sample(some, len(some))))
                self.assertIs(is_reduced(found), True)
                self.assertTrue(all(type(worth) is int for one in found for worth in one))
                self.check(names, some, parts, found)

    def check(self, names, some, parts, found):
        outside = [[int(name == other) for other in names] for name in names if name not in some]
        self.assertEqual(len(found), len(names) - rank(parts + outside))
        for one in found:
            self.assertFalse([row for row in parts + outside if sum(x * y for x, y in zip(row, one))])
        for one in itertools.product(*[(-1, 0, 1, 2) if name in some else (0,) for name in names][:4]):
            one = one + (0,) * (len(names) - len(one))
            unnoticed = not any(sum(x * y for x, y in zip(row, one)) for row in parts)
            self.assertIs(rank(found + [one]) == len(found), unnoticed)

    def test_distance(self):
        for sheet, kind, parts in kinds():
            names = sheet[1][kind]
            sizes = [len(some) for some in subsets(names) if bends_within(sheet, kind, some)]
            self.assertEqual(distance(sheet, kind), min(sizes, default=None))

    def test_stored_or_bent(self):
        for sheet, kind, _ in kinds():
            names = sheet[1][kind]
            sizes = [None]
            for some in subsets(names):
                others = tuple(name for name in names if name not in some)
                self.assertIs(is_enough(sheet, kind, others), not bends_within(sheet, kind, some))
                if not is_enough(sheet, kind, others):
                    sizes.append(len(some))
            self.assertEqual(distance(sheet, kind), min(sizes[1:], default=None))
            least = cheapest_sets(sheet, kind, {name: 1 for name in names})[0]
            self.assertEqual(len(bends_within(sheet, kind, names)), len(least))

    def test_in_plain_words(self):
        self.assertEqual(bends_within(TAGS, "tree", ("joins", "leaves", "tags")), [(2, 1, 1)])
        self.assertEqual(bends_within(TAGS, "tree", ("leaves", "tags")), [])
        self.assertEqual([distance(TAGS, "tree"), distance(SUMS, "row"), distance(NUMBERLESS, "tree")], [3, 1, None])
        self.assertEqual(bends_within(SUMS, "row", ("sum", "steps")), [(1, 0), (0, 1)])
        self.assertEqual(bends_within(NUMBERLESS, "tree", ()), [])

    def test_empty_kinds(self):
        self.assertEqual([bends_within(EMPTY, "none", ("b", "a")), distance(EMPTY, "none")], [[], None])
        self.assertEqual(cheapest_sets(EMPTY, "none", {"a": 1, "b": 0}), [()])
        for degree in (1, 2, 3):
            self.assertEqual(str(noticed_by(EMPTY, "none", degree, (0, 0))), "1")
            self.assertEqual(str(noticed_by(EMPTY, "none", degree, (0, -4))), "*".join("b" * degree))
            self.assertEqual(str(noticed_by(EMPTY, "none", degree, (3, 1))), "*".join("a" * degree))
            self.assertEqual(noticed_by(EMPTY, "some", degree, (0,)), None)
            self.assertEqual(blind_changes(EMPTY, "some", degree, ("bare",), "b"), [])


def value_changed(form, told, name, change):
    return value_of(form.terms, {**told, name: told[name] + change})


class NoticedTest(unittest.TestCase):
    def cases(self):
        source = random.Random(4)
        for sheet in list(SHEETS) + [ALIKE] + RANDOM[:40]:
            trees, _ = all_trees(sheet, 30)
            for degree in (1, 2, 3):
                try:
                    spaces = equations(sheet, degree)
                except TooMany:
                    continue
                for kind, space in spaces.items():
                    yield sheet, kind, degree, space, source.sample(trees[kind], min(3, len(trees[kind]))), source

    def test_noticed_by(self):
        for sheet, kind, degree, space, trees, source in self.cases():
            names = sheet[1][kind]
            rows = [tuple(value(sheet, tree).values()) for tree in trees]
            for row in rows:
                self.assertIsNone(noticed_by(sheet, kind, degree, row))
            for row in rows + [(0,) * len(names)]:
                row = tuple(worth + source.choice((0, 0, 1, -2)) for worth in row)
                told = dict(zip(names, row))
                broken = [form for form in space.basis if value_of(form.terms, told)]
                self.assertEqual(noticed_by(sheet, kind, degree, row), broken[0] if broken else None)

    def test_blind_changes(self):
        for sheet, kind, degree, space, trees, _ in self.cases():
            for tree in trees:
                told = value(sheet, tree)
                sure = []
                for name in told:
                    found = blind_changes(sheet, kind, degree, tree, name)
                    small = [many for many in range(-40, 41)
                             if many and not any(value_changed(form, told, name, many) for form in space.basis)]
                    if found is None:
                        self.assertEqual(len(small), 80)
                    else:
                        self.assertEqual([many for many in found if -40 <= many <= 40], small)
                        self.assertEqual(found, sorted(set(found)))
                        self.assertLessEqual(len(found), 2)
                        self.assertFalse([many for many in found for form in space.basis if value_changed(form, told, name, many)])
                    if found == []:
                        sure.append(name)
                self.assertEqual(sure_numbers(sheet, kind, degree, tree), tuple(sure))

    def test_all_integers_by_their_value(self):
        # The roots of a cubic with one root at 0 are found wherever they are.
        for low, middle, high in ((7, 10 ** 6, -10 ** 6), (5, -3, 12), (1, 1, 1), (0, 0, 1), (4, 4, 9)):
            schema = {"k": (("one", ()), ("two", ()), ("three", ()))}
            rules = {tag: (((worth, ()),) if worth else (),) for tag, worth in (("one", low), ("two", middle), ("three", high))}
            sheet = (schema, {"k": ("n",)}, rules)
            for tag, worth in (("one", low), ("two", middle), ("three", high)):
                others = sorted({other - worth for other in (low, middle, high)} - {0})
                self.assertEqual(blind_changes(sheet, "k", 3, (tag,), "n"), others)
                self.assertEqual(sure_numbers(sheet, "k", 3, (tag,)), () if others else ("n",))
                if len(others) == 2:
                    self.assertIsNone(blind_changes(sheet, "k", 2, (tag,), "n"))

    def test_in_plain_words(self):
        tree = ("more", ("more", ("end",)))
        self.assertEqual([blind_changes(SUMS, "row", 2, tree, name) for name in ("steps", "sum")], [[-3], []])
        self.assertEqual(sure_numbers(SUMS, "row", 2, tree), ("sum",))
        self.assertEqual([blind_changes(SUMS, "row", 1, tree, name) for name in ("steps", "sum")], [None, None])
        self.assertEqual(sure_numbers(SUMS, "row", 1, tree), ())
        self.assertEqual(sure_numbers(TAGS, "tree", 1, ("leaf",)), ("tags", "leaves", "joins"))
        self.assertEqual(sure_numbers(NUMBERLESS, "tree", 3, ("leaf",)), ())
        # n * (n - 1) = 2 * n' where n' = 0: 0 and 1 are both right.
        self.assertEqual(blind_changes(SUMS, "row", 2, ("end",), "steps"), [1])


class WrongInputsTest(unittest.TestCase):
    CALLS = ((noticed_by, "tree", (5, 3, 2)), (blind_changes, "tree", ("leaf",), "tags"), (sure_numbers, "tree", ("leaf",)))

    def test_kinds_and_names(self):
        for thing in ALIENS + ("row", "tags", ("tree",)):
            self.assertRaises(NoKind, bends_within, TAGS, thing, ("tags",))
            self.assertRaises(NoKind, bends_within, TAGS, thing, thing)
            self.assertRaises(NoKind, distance, TAGS, thing)
            for call in self.CALLS:
                self.assertRaises(NoKind, call[0], TAGS, thing, 1, *call[2:])
        for thing in with_aliens(("tags", "leaves")):
            if thing not in ((), ("tags", "leaves")):
                self.assertRaises(NoNumber, bends_within, TAGS, "tree", thing)
        for thing in (("tags", "tags"), ("steps",), ["tags"], "tags", {"tags": 1}, None):
            self.assertRaises(NoNumber, bends_within, TAGS, "tree", thing)
        for thing in ALIENS + ("steps", "tree"):
            self.assertRaises(NoNumber, blind_changes, TAGS, "tree", 1, ("leaf",), thing)

    def test_rows(self):
        for thing in ALIENS + ((), (1, 2), (1, 2, 3, 4), [1, 2, 3], (1, 2, True), (1, 2, "3"), (None, 2, 3), ((1,), 2, 3)):
            self.assertRaises(Mismatch, noticed_by, TAGS, "tree", 1, thing)
            if thing != ():
                self.assertRaises(Mismatch, noticed_by, NUMBERLESS, "tree", 1, thing)
        self.assertIsNone(noticed_by(NUMBERLESS, "tree", 1, ()))

    def test_sheets_and_degrees(self):
        for call in self.CALLS:
            for thing in ALIENS + (TAGS[:2], list(TAGS)):
                self.assertRaises(NoSheet, call[0], thing, "none", 9, *call[2:])
            for thing in ALIENS + (0, 4, "1", (1,)):
                self.assertRaises(NoForm, call[0], TAGS, "none", thing, *call[2:])

    def test_the_error_that_is_told_first(self):
        numbers = tuple("abcdef")
        many = (TERNARY, {"tree": numbers}, {tag: ((),) * 6 for tag in ("leaf", "fork")})
        long = (CHAIN, {kind: ("n",) for kind in CHAIN}, {f"t{n}": ((),) for n in range(1, 7)})
        for function, args, last in ((noticed_by, ((1,),), Mismatch), (blind_changes, (("t6",), "x"), NoNumber),
                                     (sure_numbers, (("t6",),), None)):
            self.limit(4000, function, many, "none", 2, *args)
            self.assertRaises(NoKind, function, long, "none", 1, *(("no",) if last is Mismatch else args))
            if last is Mismatch:
                self.assertRaises(Mismatch, function, long, "k6", 1, (True,))
                self.limit(200, function, long, "k6", 1, (0,))
            elif last is NoNumber:
                self.assertRaises(NoNumber, function, long, "k6", 1, ("t6",), "m")
                self.limit(200, function, long, "k6", 1, ("t6",), "n")
            else:
                self.limit(200, function, long, "k6", 1, ("t6",))
        self.limit(200, bends_within, long, "k6", ("n",))
        self.limit(200, distance, long, "k6")
        self.assertRaises(NoNumber, bends_within, long, "k6", ("m",))

    def limit(self, limit, function, *args):
        with self.assertRaises(TooMany) as caught:
            function(*args)
        self.assertEqual(caught.exception.limit, limit)

    def test_what_is_passed_stays(self):
        sheet = copy.deepcopy(MIXED)
        for _ in range(2):
            bends_within(sheet, "list", ("len",)).append(3)
            distance(sheet, "list")
            noticed_by(sheet, "list", 2, (1, 5))
            (blind_changes(sheet, "list", 2, ("nil",), "len") or []).append(3)
            sure_numbers(sheet, "list", 2, ("nil",))
            self.assertEqual(sheet, MIXED)
        self.assertEqual(bends_within(sheet, "list", ("len",)), [(1, 0)])
