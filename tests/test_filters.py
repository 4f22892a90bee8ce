import copy
import random
import unittest

from oracles import DEPTHS, MIXED, NUMBERLESS, SHEETS, SUMS, TAGS
from oracles import all_trees, first_of, products, random_sheets, rank, row, value, value_of
from samples import ALIENS, BINARY, CHAIN, PARTLY, ROSE, ROW, TERNARY, WIDE, all_of_size, comb, ordered, with_aliens, with_lists
from slow_filters import counting, everything, lets, random_filter, runs, slow_firsts, states_by_runs
from treelaws.equations import equations, first_trees
from treelaws.errors import NoFilter, NoForm, NoSchema, NoSheet, TooMany
from treelaws.filters import added_equations, equations_under, first_under, is_filter, lacking, lets_by, states_at
from treelaws.spaces import Space
from treelaws.trees import parts_of

COMB = ({"top": (("leaf", ()), ("join", ("top", "end"))), "end": (("leaf", ()),)}, ("top",))
RANDOM = random_sheets(60, 3, 121)
SMALL_SCHEMAS = (BINARY, ROW, ROSE, PARTLY)


def bare(schema):
    return schema, {kind: () for kind in schema}, {tag: () for variants in schema.values() for tag, _ in variants}


def limit_of(test, limit, function, *args):
    with test.assertRaises(TooMany) as caught:
        function(*args)
    test.assertEqual(caught.exception.limit, limit)


def either(one, other):
    """A filter that lets by what the one or the other lets by: their states are joined."""
    states = {}
    for mark, (some, _) in (("x", one), ("y", other)):
        states.update({mark + name: tuple((tag, tuple(mark + part for part in parts)) for tag, parts in steps)
                       for name, steps in some.items()})
    return states, tuple("x" + name for name in one[1]) + tuple("y" + name for name in other[1])


def both(one, other):
    """A filter that lets by what both let by: their states are paired."""
    states = {f"{a[0]}{b[0]}{n}{m}": tuple((tag, tuple(zip(parts, others))) for tag, parts in one[0][a]
                                           for against, others in other[0][b] if tag == against)
              for n, a in enumerate(one[0]) for m, b in enumerate(other[0])}
    names = {(a, b): f"{a[0]}{b[0]}{n}{m}" for n, a in enumerate(one[0]) for m, b in enumerate(other[0])}
    states = {name: tuple((tag, tuple(names[pair] for pair in pairs)) for tag, pairs in steps) for name, steps in states.items()}
    return states, tuple(names[a, b] for a in one[1] for b in other[1])


class IsFilterTest(unittest.TestCase):
    def test_filters(self):
        for some in (COMB, ({"a": ()}, ()), ({"a": (), "b": ()}, ("b", "a")), everything(BINARY), ({"a": (("leaf", ()),) * 24}, ("a",)),
                     ({f"s{n}": () for n in range(6)}, tuple(f"s{n}" for n in range(6)))):
            self.assertIs(is_filter(BINARY, some), True)
        for schema in (BINARY, ROW, PARTLY, WIDE):
            source = random.Random(4)
            for _ in range(50):
                self.assertIs(is_filter(schema, random_filter(source, schema)), True)

    def test_no_filters(self):
        for some in (({}, ()), ({f"s{n}": () for n in range(7)}, ()), ({"a": (("leaf", ()),) * 25}, ("a",)),
                     ({"a": (("leaf", ()),) * 13, "b": (("leaf", ()),) * 12}, ("a",)), ({"a": ()}, ("a", "a")), ({"a": ()}, ("b",)),
                     ({"a": (("join", ("a",)),)}, ()), ({"a": (("join", ("a", "b")),)}, ()), ({"a": (("leaf", ("a",)),)}, ()),
                     ({"a": (("more", ("a",)),)}, ()), ({"a": (("tree", ()),)}, ()), ({"a": (("leaf", ()),)}, "a"), ({"A": ()}, ()),
                     ({"a": ["leaf"]}, ()), ({"a": ()},), ({"a": ()}, (), ()), [{"a": ()}, ()], ({"a": (("leaf", (), ()),)}, ()),
                     ({"a": ()}, ["a"]), (("a", ()), ()), ({"a": (("leaf",),)}, ())):
            self.assertIs(is_filter(BINARY, some), False)

    def test_changed_at_one_place(self):
        for thing in list(with_aliens(COMB)) + list(with_lists(COMB)):
            right = isinstance(thing, tuple) and len(thing) == 2 and isinstance(thing[0], dict) and thing[1] in (("top",), ())
            right = right and list(thing[0]) == ["top", "end"] and thing[0]["top"] in (COMB[0]["top"], ())
            right = right and thing[0]["end"] in (COMB[0]["end"], ())
            self.assertIs(is_filter(BINARY, thing), right)

    def test_of_no_schema(self):
        for schema in ({}, None, {"a": ["t"]}, {"tree": (("leaf",),)}):
            self.assertIs(is_filter(schema, COMB), False)
        self.assertIs(is_filter(ROW, COMB), False)


class StatesTest(unittest.TestCase):
    def test_against_all_runs(self):
        source = random.Random(5)
        for schema in SMALL_SCHEMAS + (TERNARY,):
            trees = [tree for lists in all_of_size(schema, 5).values() for some in lists for tree in some]
            for _ in range(30):
                some = random_filter(source, schema)
                for tree in source.sample(trees, min(12, len(trees))):
                    states = states_by_runs(some, tree)
                    self.assertEqual(states_at(schema, some, tree), states)
                    self.assertIs(lets_by(schema, some, tree), any(state in some[1] for state in states))

    def test_joined_and_paired_filters(self):
        source = random.Random(6)
        for schema in SMALL_SCHEMAS:
            trees = [tree for lists in all_of_size(schema, 6).values() for some in lists for tree in some]
            for _ in range(25):
                one, other = random_filter(source, schema, 2, 4), random_filter(source, schema, 2, 4)
                for tree in source.sample(trees, min(12, len(trees))):
                    alone = lets_by(schema, one, tree), lets_by(schema, other, tree)
                    self.assertIs(lets_by(schema, either(one, other), tree), any(alone))
                    self.assertIs(lets_by(schema, both(one, other), tree), all(alone))

    def test_several_runs(self):
        some = ({"a": (("leaf", ()), ("join", ("a", "b"))), "b": (("leaf", ()), ("join", ("b", "a"))), "c": ()}, ("b",))
        tree = ("join", ("leaf",), ("leaf",))
        self.assertEqual(len(runs(some, tree)), 2)
        self.assertEqual(states_at(BINARY, some, tree), ("a", "b"))
        self.assertEqual(states_at(BINARY, ({"c": ()}, ("c",)), tree), ())
        self.assertIs(lets_by(BINARY, ({"c": ()}, ("c",)), tree), False)
        self.assertIs(lets_by(BINARY, (some[0], ()), tree), False)

    def test_large_trees(self):
        self.assertIs(lets_by(BINARY, COMB, comb(199)), True)
        self.assertIs(lets_by(BINARY, COMB, ("join", ("leaf",), comb(197))), False)


class LackingTest(unittest.TestCase):
    def test_against_all_small_trees(self):
        source = random.Random(7)
        found = 0
        for schema in SMALL_SCHEMAS + (TERNARY,):
            trees = {kind: ordered(schema, kind, [tree for some in lists for tree in some])
                     for kind, lists in all_of_size(schema, 7 if schema is not ROW else 12).items()}
            for _ in range(60):
                one, other = random_filter(source, schema, 3), random_filter(source, schema, 3)
                told = lacking(schema, one, other)
                self.assertEqual(list(told), list(schema))
                for kind, some in trees.items():
                    first = next((tree for tree in some if lets(one, tree) and not lets(other, tree)), None)
                    if first is not None:
                        self.assertEqual(told[kind], first)
                        found += 1
                    elif told[kind] is not None:
                        self.assertIs(lets(one, told[kind]) and not lets(other, told[kind]), True)
                        self.assertNotIn(told[kind], some)
        self.assertGreater(found, 80)

    def test_joined_and_paired_filters(self):
        source = random.Random(8)
        for schema in SMALL_SCHEMAS:
            for _ in range(20):
                one, other = random_filter(source, schema, 2, 4), random_filter(source, schema, 2, 4)
                none = {kind: None for kind in schema}
                self.assertEqual(lacking(schema, one, either(one, other)), none)
                self.assertEqual(lacking(schema, both(one, other), other), none)
                self.assertEqual(lacking(schema, both(one, other), both(other, one)), none)
                self.assertEqual(lacking(schema, one, both(one, other)), lacking(schema, one, other))
                self.assertEqual(lacking(schema, either(one, other), other), lacking(schema, one, other))

    def test_in_plain_words(self):
        self.assertEqual(lacking(BINARY, everything(BINARY), COMB), {"tree": ("join", ("leaf",), ("join", ("leaf",), ("leaf",)))})
        self.assertEqual(lacking(BINARY, COMB, everything(BINARY)), {"tree": None})
        tree = ("end",)
        for _ in range(29):
            tree = ("more", tree)
        self.assertEqual(lacking(ROW, counting(5), ({**counting(6)[0]}, tuple(f"s{n}" for n in range(1, 6)))), {"row": tree})
        self.assertEqual(lacking(PARTLY, everything(PARTLY), ({"a": ()}, ("a",)))["b"], None)


def counters(*many):
    """A schema with a kind of rows for each of some numbers, and two filters that count each of them by it."""
    schema = {f"row{n}": ((f"end{n}", ()), (f"more{n}", (f"row{n}",))) for n in range(len(many))}
    filters = []
    for at in (0, 1):
        states = {f"s{n}": () for n in range(6)}
        for place, pair in enumerate(many):
            for n in range(pair[at]):
                states[f"s{n}"] += ((f"more{place}", (f"s{(n - 1) % pair[at]}",)),)
            states["s0"] += ((f"end{place}", ()),)
        filters.append((states, ("s0",)))
    return schema, filters


class LimitsTest(unittest.TestCase):
    def test_forty_situations(self):
        for many, right in ((((4, 5), (4, 5)), True), (((4, 5), (4, 5), (1, 1)), False), (((5, 6), (2, 5)), True), (((5, 6), (3, 4)), False),
                            (((5, 6), (5, 2), (1, 1)), False), (((6, 1), (5, 6), (1, 4)), True), (((6, 1), (5, 6), (1, 5)), False)):
            schema, filters = counters(*many)
            for some in filters:
                self.assertIs(is_filter(schema, some), True)
            if right:
                self.assertEqual(set(lacking(schema, *filters)), set(schema))
                self.assertEqual(sum(a * b for a, b in many), 40)
            else:
                limit_of(self, 40, lacking, schema, *filters)

    def test_trees_without_runs_have_a_situation(self):
        # Behind the sixth row no run goes on: seven situations, one of them without states.
        states = {f"s{n}": ((("more", (f"s{n - 1}",)),) if n else (("end", ()),)) for n in range(6)}
        some = (states, ("s5",))
        self.assertEqual(len(first_under(bare(ROW), some, 1)["row"]), 1)
        schema = {"row": ROW["row"], "top": (("top", ("row",) * 3), ("two", ("row",) * 2), ("one", ("row",)))}
        # 7 * (products of three numbers) = 7 * 4 = 28, 28 * 28 * 28 > 4000 >= 28 * 28.
        numbers = {"row": ("a", "b", "c"), "top": ()}
        rules = {"end": ((),) * 3, "more": ((),) * 3, "top": (), "two": (), "one": ()}
        limit_of(self, 4000, first_under, (schema, numbers, rules), some, 1)
        less = {**schema, "top": schema["top"][1:]}
        del rules["top"]
        self.assertEqual(len(first_under((less, numbers, rules), some, 1)["row"]), 1)

    def test_four_thousand(self):
        for many, right in (((20, 20, 10), True), ((20, 20, 15), False), ((15, 15, 15), True), ((20, 10, 20), True), ((20, 20), True)):
            sizes = {20: (4, 5), 10: (2, 5), 15: (3, 5)}
            kinds = sorted(set(many))
            schema, filters = counters(*[sizes[n] for n in kinds])
            schema["top"] = (("top", tuple(f"row{kinds.index(n)}" for n in many)),)
            if right:
                self.assertEqual(lacking(schema, *filters)["top"], None)
            else:
                limit_of(self, 4000, lacking, schema, *filters)

    def test_empty_kinds_have_no_situations(self):
        schema = {"row": ROW["row"], "none": (), "top": (("top", ("row", "row", "none")), ("bare", ()))}
        sheet = (schema, {"row": tuple("abcdef"), "none": (), "top": ()},
                 {"end": ((),) * 6, "more": ((),) * 6, "top": (), "bare": ()})
        limit_of(self, 4000, equations, sheet, 3)
        limit_of(self, 4000, first_trees, sheet, 3)
        some = everything(schema)
        self.assertEqual([len(trees) for trees in first_under(sheet, some, 3).values()], [1, 0, 1])
        self.assertEqual([len(space) for space in equations_under(sheet, some, 3).values()], [83, 1, 0])
        self.assertEqual([len(space) for space in added_equations(sheet, some, 3).values()], [0, 0, 0])

    def test_two_hundred_tags(self):
        for some in (everything(CHAIN), ({"a": ()}, ())):
            limit_of(self, 200, lacking, CHAIN, some, some)
            for function in (first_under, equations_under, added_equations):
                limit_of(self, 200, function, bare(CHAIN), some, 1)
        # The first tree of one situation is too large, though the filter lets it not by.
        schema = {"a": (("l", ()), ("f", ("a", "a", "a")))}
        states = {"s0": (("l", ()),), **{f"s{n}": (("f", (f"s{n - 1}",) * 3),) for n in range(1, 6)}}
        limit_of(self, 200, first_under, bare(schema), (states, ("s0",)), 1)
        del states["s5"]
        self.assertEqual(first_under(bare(schema), (states, ("s0",)), 1), {"a": (("l",),)})

    def test_forty_ahead_of_four_thousand_ahead_of_two_hundred(self):
        schema, filters = counters((4, 5), (4, 5), (1, 1))
        schema["top"] = (("top", ("row0", "row0", "row0")),)
        limit_of(self, 40, lacking, schema, *filters)
        schema, filters = counters((4, 5))
        schema["top"] = (("top", ("row0", "row0", "row0")),)
        schema.update({f"b{n}": ((f"u{n}", (f"b{n + 1}",) * 3),) for n in range(3)}, b3=(("u3", ("top",) * 3),))
        limit_of(self, 4000, lacking, schema, *filters)


class UnderTest(unittest.TestCase):
    def cases(self):
        source = random.Random(9)
        for sheet in list(SHEETS) + RANDOM:
            for degree in (1, 2, 3):
                some = random_filter(source, sheet[0])
                try:
                    first_under(sheet, some, degree)
                    # This refuses more: a tag over an empty kind has no situations at all.
                    equations(sheet, degree)
                except TooMany:
                    continue
                yield sheet, some, degree
        for degree in (1, 2):
            yield DEPTHS, COMB, degree
            yield SUMS, counting(3, (0, 2)), degree

    def check(self, sheet, some, degree):
        expected = slow_firsts(sheet, [some], degree)
        found = first_under(sheet, some, degree)
        self.assertEqual(found, {kind: tuple(trees) for kind, trees in expected.items()})
        self.assertEqual(list(found), list(sheet[0]))
        spaces = equations_under(sheet, some, degree)
        for kind, names in sheet[1].items():
            order = products(names, degree)
            rows = [row(names, degree, value(sheet, tree)) for tree in expected[kind]]
            self.assertIsInstance(spaces[kind], Space)
            self.assertEqual((spaces[kind].names, spaces[kind].degree), (tuple(sorted(names)), degree))
            self.assertEqual(len(spaces[kind]), len(order) - rank(rows))
            for form in spaces[kind].basis:
                self.assertFalse([tree for tree in expected[kind] if value_of(form.terms, value(sheet, tree))])
        return spaces

    def test_against_a_slow_search(self):
        for sheet, some, degree in self.cases():
            spaces = self.check(sheet, some, degree)
            without = equations(sheet, degree)
            added = added_equations(sheet, some, degree)
            self.assertEqual(list(added), list(sheet[0]))
            for kind, space in added.items():
                rests = [without[kind].rest(form)[1] for form in spaces[kind].basis]
                self.assertEqual(space, Space(sheet[1][kind], degree, rests))
                self.assertEqual(space | without[kind], spaces[kind])
                self.assertFalse(space & without[kind])

    def test_at_all_small_trees(self):
        for sheet, some, degree in self.cases():
            trees, most = all_trees(sheet, 40)
            spaces, firsts = equations_under(sheet, some, degree), first_under(sheet, some, degree)
            for kind, space in spaces.items():
                by = [tree for tree in trees[kind] if lets(some, tree)]
                small = first_of(sheet, kind, degree, by)
                self.assertEqual(small, [tree for tree in firsts[kind] if len(parts_of(tree)) <= most])
                self.assertFalse([1 for tree in by for form in space.basis if value_of(form.terms, value(sheet, tree))])

    def test_filters_that_let_nothing_or_all_by(self):
        for sheet in SHEETS:
            for degree in (1, 2):
                for some in (({"a": ()}, ("a",)), (everything(sheet[0])[0], ())):
                    self.assertEqual(first_under(sheet, some, degree), {kind: () for kind in sheet[0]})
                    found = equations_under(sheet, some, degree)
                    self.assertEqual([len(space) for space in found.values()],
                                     [len(products(names, degree)) for names in sheet[1].values()])
                some = everything(sheet[0])
                self.assertEqual(first_under(sheet, some, degree), first_trees(sheet, degree))
                self.assertEqual(equations_under(sheet, some, degree), equations(sheet, degree))
                self.assertFalse(any(added_equations(sheet, some, degree).values()))

    def test_in_plain_words(self):
        self.assertEqual([str(form) for form in added_equations(DEPTHS, COMB, 1)["tree"].basis], ["depth - leaves + 1"])
        self.assertEqual(first_under(DEPTHS, COMB, 1)["tree"], (("leaf",), ("join", ("leaf",), ("leaf",))))
        odd = counting(2, (1,))
        self.assertEqual(first_under(SUMS, odd, 1)["row"][:2], (("end",), ("more", ("more", ("end",)))))
        self.assertEqual([str(form) for form in equations_under(NUMBERLESS, ({"a": ()}, ()), 2)["tree"].basis], ["1"])


class WrongInputsTest(unittest.TestCase):
    def test_no_schema(self):
        for thing in ALIENS + ({"a": ["t"]}, {}):
            self.assertRaises(NoSchema, states_at, thing, COMB, ("leaf",))
            self.assertRaises(NoSchema, lets_by, thing, None, ("leaf",))
            self.assertRaises(NoSchema, lacking, thing, None, 3)

    def test_no_filter(self):
        for thing in ALIENS + (COMB[0], ({"a": ()},), [{"a": ()}, ()], ({"a": ()}, ("b",))):
            self.assertRaises(NoFilter, states_at, BINARY, thing, ("leaf",))
            self.assertRaises(NoFilter, lets_by, BINARY, thing, ("leaf",))
            self.assertRaises(NoFilter, lacking, BINARY, thing, COMB)
            self.assertRaises(NoFilter, lacking, BINARY, COMB, thing)
            for function in (first_under, equations_under, added_equations):
                self.assertRaises(NoFilter, function, TAGS, thing, 1)

    def test_the_error_that_is_told_first(self):
        sixes = (TERNARY, {"tree": tuple("abcdef")}, {tag: ((),) * 6 for tag in ("leaf", "fork")})
        for function in (first_under, equations_under, added_equations):
            for thing in ALIENS + (TAGS[:2],):
                self.assertRaises(NoSheet, function, thing, thing, 7)
            for thing in ALIENS + (0, 4, (1,)):
                self.assertRaises(NoForm, function, TAGS, None, thing)
                self.assertRaises(NoForm, function, sixes, None, thing)
            self.assertRaises(NoFilter, function, sixes, None, 3)
            limit_of(self, 4000, function, sixes, everything(TERNARY), 2)
        schema, filters = counters((5, 6), (3, 4))
        self.assertRaises(NoFilter, lacking, schema, filters[0], 1)

    def test_what_is_passed_stays(self):
        sheet, some = copy.deepcopy(MIXED), random_filter(random.Random(1), MIXED[0])
        kept = copy.deepcopy(some)
        for _ in range(2):
            is_filter(sheet[0], some)
            states_at(sheet[0], some, ("nil",))
            lets_by(sheet[0], some, ("nil",))
            for found in (lacking(sheet[0], some, some), first_under(sheet, some, 1), equations_under(sheet, some, 2),
                          added_equations(sheet, some, 2)):
                found.clear()
            self.assertEqual((sheet, some), (MIXED, kept))
