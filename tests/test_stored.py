import copy
import functools
import itertools
import random
import unittest

from oracles import EMPTY, MIXED, NUMBERLESS, SHEETS, SUMS, TAGS, random_sheets, rank, search
from samples import ALIENS, CHAIN, with_aliens
from test_told import ALIKE, columns_of, told_slowly
from treelaws.errors import Mismatch, NoKind, NoNumber, NoPrice, TooMany
from treelaws.forms import Form
from treelaws.integers import is_integer
from treelaws.stored import cheapest_sets, exchanges, is_enough, shows_stored, stored

RANDOM = random_sheets(50, 5, 61, most=2) + random_sheets(30, 5, 62, factors=(1, 1, 1, 1, 2), most=1)
PRICE = {"tags": 3, "leaves": 3, "joins": 3}


@functools.cache
def kinds():
    """All kinds of some sheets: (sheet, kind, the values of its numbers, its least sets)."""
    found = []
    for sheet in list(SHEETS) + [ALIKE] + RANDOM:
        try:
            firsts = search(sheet, 1)
        except AssertionError:
            continue
        for kind, names in sheet[1].items():
            columns = columns_of(sheet, firsts, kind)
            found.append((sheet, kind, columns, least_sets(columns, names)))
    return found


def subsets(names):
    """All sets of some names, as tuples in their order, by the tuples of their places."""
    some = [places for many in range(len(names) + 1) for places in itertools.combinations(range(len(names)), many)]
    return [tuple(names[place] for place in places) for places in sorted(some)]


def enough(columns, names):
    return rank([columns[name] for name in (None, *names)]) == rank(list(columns.values()))


def least_sets(columns, names):
    return [some for some in subsets(names) if enough(columns, some)
            and rank([columns[name] for name in (None, *some)]) == len(some) + rank([columns[None]])]


def cheapest(sets, prices):
    least = min(sum(prices[name] for name in names) for names in sets)
    return [names for names in sets if sum(prices[name] for name in names) == least]


def right(columns, sets, prices, thing):
    """Whether an object is what shows_stored asks for, by its definition."""
    if not isinstance(thing, tuple) or len(thing) != 3 or not isinstance(thing[2], tuple):
        return False
    price, names, told = thing
    if names not in cheapest(sets, prices) or not is_integer(price) or price != sum(prices[name] for name in names):
        return False
    others = [name for name in prices if name not in names]
    if len(others) != len(told):
        return False
    for name, one in zip(others, told):
        if not isinstance(one, tuple) or len(one) != 3 or one[0] != name or not is_integer(one[1]) or one[1] < 1:
            return False
        many, factors = told_slowly(columns, name, names)
        terms = one[2]
        if one[1] % many or not isinstance(terms, tuple):
            return False
        times = one[1] // many
        if repr(terms) != repr(Form([(factor * times, product) for product, factor in factors.items()]).terms):
            return False
        if any(prices[other] > prices[name] for (other,) in [product for product in factors if product]):
            return False
    return True


def path_slowly(found, one, other):
    """The path of point 17, step by step."""
    path = [one]
    while path[-1] != other:
        here = path[-1]
        path.append(next(names for names in found if len(set(here) - set(names)) == 1 and len(set(names) - set(here)) == 1
                         and not (set(here) - set(names)) & set(other) and set(names) - set(here) <= set(other)))
    return path


class StoredTest(unittest.TestCase):
    def cases(self, prices):
        source = random.Random(5)
        for sheet, kind, columns, sets in kinds():
            yield sheet, kind, columns, sets, {name: source.choice(prices) for name in sheet[1][kind]}, source

    def test_is_enough(self):
        for sheet, kind, columns, _, prices, source in self.cases((0,)):
            for names in subsets(tuple(prices)):
                mixed = tuple(source.sample(names, len(names)))
                self.assertIs(is_enough(sheet, kind, mixed), enough(columns, names))

    def test_cheapest_sets(self):
        for choice in ((0,), (0, 1), (1, 1, 1, 2), (0, 5, 10 ** 6), tuple(range(9))):
            for sheet, kind, _, sets, prices, _ in self.cases(choice):
                self.assertEqual(cheapest_sets(sheet, kind, prices), cheapest(sets, prices))

    def test_stored(self):
        for choice in ((0, 1), (3, 4, 5)):
            for sheet, kind, columns, sets, prices, _ in self.cases(choice):
                found = stored(sheet, kind, prices)
                self.assertIs(right(columns, sets, prices, found), True)
                self.assertIs(shows_stored(sheet, kind, prices, found), True)
                self.assertEqual(found[1], cheapest(sets, prices)[0])
                for name, many, terms in found[2]:
                    self.assertEqual((many, {names: factor for factor, names in terms}), told_slowly(columns, name, found[1]))

    def test_exchanges(self):
        for choice in ((0,), (1, 1, 2)):
            for sheet, kind, _, sets, prices, source in self.cases(choice):
                found = cheapest(sets, prices)
                for one, other in [(source.choice(found), source.choice(found)) for _ in range(4)]:
                    self.assertEqual(exchanges(sheet, kind, prices, one, other), path_slowly(found, one, other))

    def test_in_plain_words(self):
        self.assertEqual(stored(TAGS, "tree", {"tags": 5, "leaves": 1, "joins": 2}), (
            1, ("leaves",), (("tags", 1, ((2, ("leaves",)), (-1, ()))), ("joins", 1, ((1, ("leaves",)), (-1, ()))))))
        self.assertEqual(cheapest_sets(TAGS, "tree", PRICE), [("tags",), ("leaves",), ("joins",)])
        self.assertEqual(exchanges(TAGS, "tree", PRICE, ("leaves",), ("tags",)), [("leaves",), ("tags",)])
        self.assertEqual(exchanges(TAGS, "tree", PRICE, ("joins",), ("joins",)), [("joins",)])
        self.assertEqual([is_enough(TAGS, "tree", names) for names in ((), ("tags",), ("joins", "tags"))], [False, True, True])
        self.assertEqual(cheapest_sets(ALIKE, "tree", {"a": 1, "b": 1, "c": 0, "d": 9, "one": 0}), [("c", "d")])
        self.assertEqual(stored(SUMS, "row", {"steps": 0, "sum": 10 ** 6}), (10 ** 6, ("steps", "sum"), ()))
        self.assertEqual(is_enough(SUMS, "row", ("sum", "steps")), True)

    def test_empty_kinds_and_kinds_without_numbers(self):
        self.assertEqual(stored(EMPTY, "none", {"a": 1, "b": 0}), (0, (), (("a", 1, ()), ("b", 1, ()))))
        self.assertEqual(cheapest_sets(EMPTY, "none", {"a": 0, "b": 0}), [()])
        self.assertEqual(exchanges(EMPTY, "none", {"a": 0, "b": 0}, (), ()), [()])
        self.assertIs(is_enough(EMPTY, "none", ()), True)
        self.assertEqual(stored(NUMBERLESS, "tree", {}), (0, (), ()))
        self.assertIs(shows_stored(NUMBERLESS, "tree", {}, (0, (), ())), True)
        self.assertIs(is_enough(NUMBERLESS, "tree", ()), True)

    def test_a_longer_path(self):
        names = tuple("abcdef")
        rules = {"end": ((),) * 6, "more": tuple(((1, ()), (1 + at // 2, ((0, name),))) for at, name in enumerate(names))}
        sheet = (SUMS[0], {"row": names}, rules)
        prices = {name: 7 for name in names}
        self.assertEqual(len(cheapest_sets(sheet, "row", prices)), 8)
        self.assertEqual(exchanges(sheet, "row", prices, ("b", "d", "f"), ("a", "c", "e")),
                         [("b", "d", "f"), ("a", "d", "f"), ("a", "c", "f"), ("a", "c", "e")])


class ShowsStoredTest(unittest.TestCase):
    def test_changed(self):
        source = random.Random(7)
        for sheet, kind, columns, sets in kinds():
            prices = {name: source.choice((0, 1, 1, 2)) for name in sheet[1][kind]}
            for thing in self.changed(prices, stored(sheet, kind, prices), columns, sets):
                self.assertIs(shows_stored(sheet, kind, prices, thing), right(columns, sets, prices, thing), (sheet, prices, thing))

    def changed(self, prices, found, columns, sets):
        price, names, told = found
        for other in (price + 1, price - 1, bool(price), None):
            yield other, names, told
        for some in sets:
            others = tuple((name, *told_slowly(columns, name, some)) for name in prices if name not in some)
            triples = tuple((name, many, Form([(factor, product) for product, factor in form.items()]).terms)
                            for name, many, form in others)
            yield sum(prices[name] for name in some), some, triples
            yield price, some, told
            yield price, some[::-1], triples
        yield price, list(names), told
        yield price, names, list(told)
        yield price, names, told[1:]
        yield price, names, told[::-1]
        yield price, names, told + told[:1]
        yield [price, names, told]
        for at, (name, many, terms) in enumerate(told):
            for one in ((name, many + 1, terms), (name, many * 3 - 1, tuple((factor * 2, product) for factor, product in terms)),
                        (name, many * 2, tuple((factor * 2, product) for factor, product in terms)), (name, many * 2, terms),
                        (name, -many, tuple((-factor, product) for factor, product in terms)), (name, many, terms + ((1, ()),)),
                        (name, many, tuple((factor * 3, product) for factor, product in terms)), (name, 0, ()), (name, many, list(terms)),
                        (name, True, terms), (None, many, terms), (name, many), [name, many, terms], (name, many, terms[::-1]),
                        (name, many, tuple((True, product) for _, product in terms)), None,
                        (name, many, tuple((factor, product * 2) for factor, product in terms))):
                yield price, names, told[:at] + (one,) + told[at + 1:]

    def test_other_objects(self):
        prices = {"tags": 5, "leaves": 1, "joins": 2}
        found = stored(TAGS, "tree", prices)
        for thing in ALIENS + (0, (), found[:2], found + (1,), list(found), Form(()), {"a": found}):
            self.assertIs(shows_stored(TAGS, "tree", prices, thing), False)
        columns = columns_of(TAGS, search(TAGS, 1), "tree")
        for thing in with_aliens(found):
            self.assertIs(shows_stored(TAGS, "tree", prices, thing), right(columns, [("tags",), ("leaves",), ("joins",)], prices, thing))


class RaisesTest(unittest.TestCase):
    CALLS = (cheapest_sets, stored, lambda *given: shows_stored(*given, None), lambda *given: exchanges(*given, ("tags",), None))
    LARGE = (CHAIN, {kind: ("a",) if kind == "k6" else () for kind in CHAIN}, {f"t{n}": () for n in range(1, 6)} | {"t6": ((),)})

    def test_no_kind(self):
        for kind in ALIENS + ("trees", "leaf", 0):
            for call in self.CALLS + (is_enough,):
                for given in (PRICE, None):
                    with self.assertRaises(NoKind):
                        call(TAGS, kind, given)

    def test_no_price(self):
        prices = [{**PRICE, "tags": price} for price in (-1, 10 ** 6 + 1, True, None, "1", (1,), [])]
        prices += [{"leaves": 3, "tags": 3, "joins": 3}, {"tags": 3, "leaves": 3}, {**PRICE, "more": 3}, list(PRICE.items()), {}, 0,
                   {**PRICE, 1: 2}, ("tags",)]
        for call in self.CALLS:
            for thing in prices + list(ALIENS):
                with self.assertRaises(NoPrice):
                    call(TAGS, "tree", thing)
        self.assertEqual(stored(TAGS, "tree", {"tags": 10 ** 6, "leaves": 10 ** 6, "joins": 0})[0], 0)
        self.assertEqual(stored(TAGS, "tree", {name: 10 ** 6 for name in PRICE})[0], 10 ** 6)

    def test_no_number(self):
        for names in ALIENS + (["tags"], "tags", ("tags", "tags"), ("tags", "a"), ("tags", None), {"tags": 1}, 0):
            with self.assertRaises(NoNumber):
                is_enough(TAGS, "tree", names)
        with self.assertRaises(NoNumber):
            is_enough(MIXED, "item", ("len",))

    def test_mismatch(self):
        for thing in ALIENS + (("a",), (), ["tags"], "tags", ("tags", "leaves"), (("tags",),), {"tags": 1}, 0, ("tags", None)):
            for one, other in ((thing, ("tags",)), (("tags",), thing), (thing, thing)):
                with self.assertRaises(Mismatch):
                    exchanges(TAGS, "tree", PRICE, one, other)
        with self.assertRaises(Mismatch):
            exchanges(TAGS, "tree", {"tags": 1, "leaves": 2, "joins": 1}, ("tags",), ("leaves",))
        with self.assertRaises(Mismatch):
            exchanges(SUMS, "row", {"steps": 1, "sum": 1}, ("sum", "steps"), ("steps", "sum"))

    def test_two_hundred(self):
        for call in (cheapest_sets, stored, lambda *given: shows_stored(*given, None), lambda *given: exchanges(*given, None, None)):
            with self.assertRaises(TooMany) as caught:
                call(self.LARGE, "k6", {"a": 1})
            self.assertEqual(caught.exception.limit, 200)
            with self.assertRaises(NoPrice):
                call(self.LARGE, "k6", {"a": -1})
            with self.assertRaises(NoKind):
                call(self.LARGE, "k7", {"a": -1})
        with self.assertRaises(TooMany):
            is_enough(self.LARGE, "k6", ())
        with self.assertRaises(NoNumber):
            is_enough(self.LARGE, "k6", ("b",))

    def test_what_is_passed_stays_and_lists_are_new(self):
        sheet, prices = copy.deepcopy(TAGS), dict(PRICE)
        for call in (lambda: cheapest_sets(sheet, "tree", prices), lambda: exchanges(sheet, "tree", prices, ("tags",), ("joins",))):
            found = call()
            kept = list(found)
            found.clear()
            self.assertEqual(call(), kept)
        shows_stored(sheet, "tree", prices, stored(sheet, "tree", prices))
        is_enough(sheet, "tree", ("tags",))
        self.assertEqual((sheet, prices), (TAGS, PRICE))
