import copy
import itertools
import random
import time
import unittest

from oracles import DEPTHS, EMPTY, MIXED, NUMBERLESS, POWER, PRODUCTS, SHEETS, SUMS, TAGS
from oracles import all_trees, first_of, null_rows, products, random_rules, random_sheets, row, search, value, value_of
from samples import ALIENS, BINARY, CHAIN, ROW, TERNARY, row as row_tree, size, with_aliens
from treelaws.equations import equations, first_trees
from treelaws.errors import NoForm, NoSheet, TooMany
from treelaws.filters import first_under
from treelaws.forms import Form
from treelaws.modulo import first_trees_modulo
from treelaws.residues import PRIME
from treelaws.sheets import is_sheet, named_values
from treelaws.spaces import Space

RANDOM = tuple(random_sheets(60, 3, 21)) + tuple(random_sheets(25, 4, 22)) + tuple(
    random_sheets(15, 3, 23, factors=(10 ** 6, -10 ** 6, 999983, 1), most=8))
DEGREES = (1, 2, 3)


def plain_rule(*terms):
    return tuple((1, uses) for uses in terms)


def shifts(many):
    """A row whose trees of 1, 2, .., many tags each have a number of their own."""
    return (tuple(f"n{n}" for n in range(1, many + 1)),
            (((1, ()),),) + ((),) * (many - 1),
            ((),) + tuple(plain_rule(((0, f"n{n}"),)) for n in range(1, many)))


def full(parts, last):
    """A sheet with a first tree that has all parts at each of four levels, and a row of last tags beside them."""
    names, end, more = shifts(6)
    schema = {"row": (("end", ()), ("more", ("row",)))}
    rules = {"end": end, "more": more}
    below, name, many = "row", "n6", 6
    for level in range(2, 5 if parts == 3 else 6):
        kind = f"k{level}"
        schema[kind] = ((f"t{level}", (below,) * parts),)
        rules[f"t{level}"] = (plain_rule(tuple((at, name) for at in range(parts))),)
        below, name, many = kind, "x", many * parts + 1
    schema["top"] = (("all", (below, "k2", "row")),)
    rules["all"] = (plain_rule(((0, "x"), (1, "x"), (2, f"n{last}"))),)
    return (schema, {kind: names if kind == "row" else ("x",) for kind in schema}, rules), many + 6 * parts + 2 + last


def with_large_number(number):
    """A sheet whose kind "last" has trees zero, large and small; x is 0, the number (below 10 ^ 108) and 1 at them."""
    digits = [abs(number) // 10 ** (6 * place) % 10 ** 6 for place in range(20)]
    sign = 1 if number > 0 else -1
    powers = [(), ((0, "m"),), ((0, "m"), (1, "m")), ((0, "m"), (1, "m"), (2, "m"))]

    def part(at):
        return tuple((digit * sign, uses) for digit, uses in zip(digits[at:at + 4], powers) if digit)
    schema = {"one": (("t1", ()),), "two": (("t2", ("one", "one", "one")),), "three": (("t3", ("two", "two", "two")),),
              "last": (("zero", ()), ("large", ("three", "three")), ("small", ("three", "three", "last")))}
    numbers = {"one": ("m",), "two": ("a", "b", "c", "d", "e", "m"), "three": ("p", "q", "m"), "last": ("x", "y")}
    rules = {"t1": (((10 ** 6, ()),),), "t2": (part(0), part(4), part(8), part(12), part(16), ((10 ** 6, powers[3]),)),
             "t3": (plain_rule(((0, "a"),), ((0, "b"), (1, "m")), ((0, "c"), (1, "m"), (2, "m"))),
                    plain_rule(((0, "d"),), ((0, "e"), (1, "m"))), plain_rule(powers[3])),
             "zero": ((), ()), "large": (plain_rule(((0, "p"),), ((0, "q"), (1, "m"))), ()), "small": (((1, ()),), ())}
    return schema, numbers, rules


class FirstTreesTest(unittest.TestCase):
    def test_against_all_trees_by_size(self):
        for sheet in SHEETS + RANDOM:
            trees, most = all_trees(sheet, 250)
            for degree in DEGREES:
                try:
                    found = first_trees(sheet, degree)
                except TooMany:
                    continue
                self.assertEqual(list(found), list(sheet[0]))
                for kind, some in found.items():
                    self.assertEqual(first_of(sheet, kind, degree, trees[kind]), [tree for tree in some if size(tree) <= most])

    def test_against_a_slow_search(self):
        for sheet in SHEETS + RANDOM:
            for degree in DEGREES:
                try:
                    found = first_trees(sheet, degree)
                except TooMany:
                    continue
                self.assertEqual(found, {kind: tuple(trees) for kind, trees in search(sheet, degree).items()})

    def test_in_plain_words(self):
        self.assertEqual(first_trees(TAGS, 1), {"tree": (("leaf",), ("join", ("leaf",), ("leaf",)))})
        self.assertEqual(first_trees(POWER, 1), {"row": (row_tree(1), row_tree(2), row_tree(3))})
        self.assertEqual(first_trees(NUMBERLESS, 3), {"tree": (("leaf",),)})
        self.assertEqual(first_trees(EMPTY, 2), {"none": (), "some": (("bare",),)})
        self.assertEqual([len(first_trees(POWER, degree)["row"]) for degree in DEGREES], [3, 6, 10])

    def test_order_within_a_size(self):
        schema = {"k": (("two", ("k", "k")), ("b", ()), ("a", ()))}
        sheet = (schema, {"k": ("x", "y", "z")}, {
            "two": (((1, ((0, "x"),)), (2, ((1, "x"),))), (), ((1, ((0, "z"), (1, "z"))),)), "b": ((), ((1, ()),), ()),
            "a": (((1, ()),), (), ((1, ()),))})
        self.assertEqual(first_trees(sheet, 1)["k"], (("b",), ("a",), ("two", ("b",), ("b",)), ("two", ("b",), ("a",))))


class EquationsTest(unittest.TestCase):
    def check(self, sheet, degree):
        found, firsts = equations(sheet, degree), first_trees(sheet, degree)
        self.assertEqual(list(found), list(sheet[0]))
        for kind, space in found.items():
            names = sheet[1][kind]
            self.assertIsInstance(space, Space)
            self.assertEqual((space.names, space.degree), (tuple(sorted(names)), degree))
            rows = [row(names, degree, value(sheet, tree)) for tree in firsts[kind]]
            columns = products(names, degree)
            right = [Form([(int(worth), names) for worth, names in zip(scaled(one), columns)])
                     for one in null_rows(rows, len(columns))]
            self.assertEqual(space, Space(names, degree, right))
            self.assertEqual(len(space), len(columns) - len(firsts[kind]))
        return found

    def test_just_the_forms_that_are_nought_at_first_trees(self):
        for sheet in SHEETS + RANDOM:
            for degree in DEGREES:
                try:
                    first_trees(sheet, degree)
                except TooMany:
                    continue
                self.check(sheet, degree)

    def test_nought_at_all_small_trees(self):
        for sheet in SHEETS + RANDOM:
            trees, _ = all_trees(sheet, 80)
            for degree in (1, 2):
                try:
                    found = equations(sheet, degree)
                except TooMany:
                    continue
                for kind, space in found.items():
                    for tree in trees[kind]:
                        told = value(sheet, tree)
                        self.assertFalse([form for form in space.basis if value_of(form.terms, told)])

    def test_in_plain_words(self):
        self.assertEqual([str(form) for form in equations(TAGS, 1)["tree"].basis], ["2*joins - tags + 1", "2*leaves - tags - 1"])
        self.assertEqual(len(equations(TAGS, 2)["tree"]), 7)
        self.assertEqual([str(form) for form in equations(SUMS, 2)["row"].basis], ["steps*steps - steps - 2*sum"])
        self.assertEqual([str(form) for form in equations(SUMS, 1)["row"].basis], [])
        self.assertEqual([str(form) for form in equations(POWER, 3)["row"].basis], [])
        self.assertEqual([str(form) for form in equations(PRODUCTS, 1)["tree"].basis], [])
        self.assertEqual([str(form) for form in equations(MIXED, 1)["item"].basis], [])

    def test_empty_kinds(self):
        for degree in DEGREES:
            found = equations(EMPTY, degree)
            self.assertEqual([form.terms for form in found["none"].basis], [((1, names),) for names in products("ab", degree)])
            self.assertEqual([str(form) for form in found["some"].basis], ["b*b*b", "b*b", "b"][3 - degree:])
            self.assertEqual([len(space) for space in equations(({"k": ()}, {"k": ()}, {}), degree).values()], [1])
            self.assertEqual([len(space) for space in equations(NUMBERLESS, degree).values()], [0])

    def test_powers_of_two_less_one(self):
        # Numbers such as these are 0 modulo well-known primes.
        for factor, more in ((2, 1), (4, 3), (8, 7), (2 ** 13, 2 ** 13 - 1)):
            sheet = (ROW, {"row": ("x", "y")}, {
                "end": (((1, ()),), ((1, ()),)), "more": (((more, ()), (factor, ((0, "x"),))), ((factor, ((0, "y"),)),))})
            self.assertEqual(len(self.check(sheet, 1)["row"]), 1)
            self.check(sheet, 3)

    def test_a_number_that_is_nought_modulo_a_prime(self):
        for number in (PRIME, -PRIME, 2 * PRIME, 2 ** 61 - 1, 10 ** 9 + 7, 10 ** 18 + 9):
            sheet = with_large_number(number)
            self.assertIs(is_sheet(sheet), True)
            found = first_trees(sheet, 1)
            self.assertEqual([tree[0] for tree in found["last"]], ["zero", "large"])
            self.assertEqual(named_values(sheet, found["last"][1]), {"x": number, "y": 0})
            self.assertEqual(found, {kind: tuple(trees) for kind, trees in search(sheet, 1).items()})
            self.check(sheet, 1)

    def test_equations_with_large_factors(self):
        for number in (10 ** 100 + 7, 3 ** 210, -PRIME, 10 ** 40 + 9):
            schema, numbers, rules = with_large_number(number)
            schema = {**schema, "last": (("zero", ("three", "three")), ("more", ("last",)))}
            numbers = {**numbers, "last": ("x", "y", "z", "u", "v", "w")}
            sums = tuple(plain_rule(*sorted([((0, name),), ((0, other),)])) for name, other in zip("yzuv", "zuvw"))
            rules = {tag: rules[tag] for tag in ("t1", "t2", "t3")} | {
                "zero": (rules["large"][0],) + ((),) * 5,
                "more": (plain_rule(((0, "x"),)), plain_rule((), ((0, "y"),))) + sums}
            sheet = (schema, numbers, rules)
            self.assertIs(is_sheet(sheet), True)
            found = self.check(sheet, 1)["last"]
            self.assertEqual([str(form) for form in found.basis], [str(Form.named("x") - number)])

    def test_natural_numbers_of_long_rows(self):
        rules = {"end": ((), (), ((1, ()),), ((1, ()),), (), ()), "more": (
            ((1, ()), (1, ((0, "n"),))), ((1, ((0, "n"),)), (1, ((0, "tri"),))), ((2, ((0, "two"),)),),
            ((3, ((0, "three"),)),), ((1, ((0, "fib"),)), (1, ((0, "nib"),))), ((1, ()), (1, ((0, "fib"),))))}
        sheet = (ROW, {"row": ("n", "tri", "two", "three", "nib", "fib")}, rules)
        self.assertIs(is_sheet(sheet), True)
        for degree in DEGREES:
            space = equations(sheet, degree)["row"]
            for tags in (1, 2, 5, 30, 90, 150):
                told = value(sheet, row_tree(tags))
                self.assertFalse([form for form in space.basis if value_of(form.terms, told)])


def scaled(one):
    """A row of fractions without denominators."""
    common = 1
    for worth in one:
        common *= worth.denominator
    return [worth * common for worth in one]


class LimitsTest(unittest.TestCase):
    def refuses(self, limit, sheet, degree):
        for call in (first_trees, equations):
            with self.assertRaises(TooMany) as caught:
                call(sheet, degree)
            self.assertEqual(caught.exception.limit, limit)

    def allows(self, sheet, degree):
        found = first_trees(sheet, degree)
        self.assertEqual([len(space) for space in equations(sheet, degree).values()],
                         [len(products(names, degree)) - len(found[kind]) for kind, names in sheet[1].items()])
        return found

    def test_full_trees_of_two_and_three_parts(self):
        for parts, lasts in ((3, range(1, 7)), (2, range(1, 7))):
            for last in lasts:
                sheet, largest = full(parts, last)
                self.assertIs(is_sheet(sheet), True)
                if largest > 200:
                    self.refuses(200, sheet, 1)
                else:
                    found = self.allows(sheet, 1)
                    self.assertEqual([size(tree) for tree in found["top"]][1:], [largest])
        self.assertEqual([full(3, last)[1] for last in range(1, 7)], [196, 197, 198, 199, 200, 201])

    def test_least_trees(self):
        def sheet(schema):
            return schema, {kind: () for kind in schema}, {variant[0]: () for variants in schema.values() for variant in variants}
        self.refuses(200, sheet(CHAIN), 1)
        less = {kind: variants for kind, variants in CHAIN.items() if kind != "k1"}
        self.assertEqual([size(tree) for (tree,) in self.allows(sheet(less), 1).values()], [121, 40, 13, 4, 1])
        for (first, second, third), most in ((("a4", "a5", "a5"), 199), (("a4", "a4", "a5"), 202)):
            sizes = {199: ("a1 a1 a1", "a2 a2 a2", "a1 a3 a3", "a4 a4 a4"), 202: ("a1 a1 a1", "a2 a2 a2", "a3 a3 a3", "a4 a4 a4")}[most]
            schema = {"a1": (("t1", ()),), **{f"a{n}": ((f"t{n}", tuple(children.split())),)
                                              for n, children in zip(range(2, 6), sizes)}, "a6": (("t6", (first, second, third)),)}
            if most > 200:
                self.refuses(200, sheet(schema), 2)
            else:
                self.assertEqual(size(self.allows(sheet(schema), 2)["a6"][0]), most)

    def test_larger_trees_that_are_no_first_ones(self):
        schema = {**{kind: variants for kind, variants in CHAIN.items() if kind != "k1"}, "top": (("one", ()), ("two", ("k2", "k2")))}
        numbers = {kind: ("n",) if kind == "top" else () for kind in schema}
        rules = {**{f"t{n}": () for n in range(2, 7)}, "one": (((1, ()),),), "two": (((1, ()),),)}
        for degree in DEGREES:
            self.assertEqual(self.allows((schema, numbers, rules), degree)["top"], (("one",),))
            for modulus in (2, 9):
                self.assertEqual(first_trees_modulo((schema, numbers, rules), degree, modulus)["top"], (("one",),))
            self.refuses(200, (schema, numbers, {**rules, "two": (((2, ()),),)}), degree)
            # Modulo 2 the numbers 1 and 3 are the same.
            sheet = (schema, numbers, {**rules, "two": (((3, ()),),)})
            self.assertEqual(first_trees_modulo(sheet, degree, 2)["top"], (("one",),))
            with self.assertRaises(TooMany):
                first_trees_modulo(sheet, degree, 4)
            # Under a filter the two trees are in two situations, if runs lead to two states.
            same = ({"a": tuple((tag, ("a",) * len(children)) for variants in schema.values() for tag, children in variants)}, ("a",))
            self.assertEqual(first_under((schema, numbers, rules), same, degree)["top"], (("one",),))
            two = ({"a": tuple(step for step in same[0]["a"] if step[0] != "two"), "b": (("two", ("a", "a")),)}, ("a",))
            with self.assertRaises(TooMany):
                first_under((schema, numbers, rules), two, degree)

    def test_numbers_that_only_full_trees_make(self):
        for schema, tag, parts in ((BINARY, "join", 2), (TERNARY, "fork", 3)):
            for many in range(1, 7):
                names = tuple(f"n{n}" for n in range(many))
                rules = {"leaf": (((1, ()),),) + ((),) * (many - 1),
                         tag: ((),) + tuple(plain_rule(tuple((at, f"n{n}") for at in range(parts))) for n in range(many - 1))}
                sizes = [sum(parts ** level for level in range(n + 1)) for n in range(many)]
                if sizes[-1] > 200:
                    self.refuses(200, (schema, {"tree": names}, rules), 1)
                else:
                    found = self.allows((schema, {"tree": names}, rules), 1)["tree"]
                    self.assertTrue(set(sizes) <= {size(tree) for tree in found})

    def test_rows_of_great_length(self):
        # A number beyond the two hundredth tag: each row so far is in the span, or none ahead of it.
        sheet = ({"row": (("end", ()), ("more", ("row",))), "three": (("all", ("row", "row", "row")),)},
                 {"row": ("two",), "three": ("x",)},
                 {"end": (((1, ()),),), "more": (((2, ((0, "two"),)),),), "all": (plain_rule(((0, "two"), (1, "two"), (2, "two"))),)})
        for degree in DEGREES:
            self.allows(sheet, degree)

    def test_four_thousand_products(self):
        def sheet(children, many):
            schema = {"k": (("t", ()), ("u", ("k",) * children))}
            return schema, {"k": tuple(f"n{n}" for n in range(many))}, {"t": ((),) * many, "u": ((),) * many}
        for children, many, degree in itertools.product(range(4), range(7), DEGREES):
            count = len(products([f"n{n}" for n in range(many)], degree)) ** children
            if count > 4000:
                self.refuses(4000, sheet(children, many), degree)
            else:
                self.allows(sheet(children, many), degree)
        mixed = ({"a": (("t", ()), ("u", ("b", "c", "c"))), "b": (), "c": ()}, {"a": (), "b": ("x", "y"), "c": ("p", "q", "r")},
                 {"t": (), "u": ()})
        self.allows(mixed, 3)
        self.refuses(4000, (mixed[0], {**mixed[1], "c": ("p", "q", "r", "s")}, mixed[2]), 3)
        self.refuses(4000, (mixed[0], {**mixed[1], "b": ("p", "q", "r")}, mixed[2]), 3)

    def test_refused_at_a_tag_without_trees(self):
        schema = {"k": (("t", ()),), "none": (("u", ("none", "none")),)}
        names = tuple(f"n{n}" for n in range(6))
        self.refuses(4000, (schema, {"k": (), "none": names}, {"t": (), "u": ((),) * 6}), 3)
        self.allows((schema, {"k": (), "none": names}, {"t": (), "u": ((),) * 6}), 2)

    def test_four_thousand_ahead_of_two_hundred(self):
        schema = {**CHAIN}
        numbers = {kind: ("a", "b", "c", "d") if kind == "k6" else () for kind in schema}
        rules = {f"t{n}": () for n in range(1, 6)} | {"t6": ((),) * 4}
        self.refuses(200, (schema, numbers, rules), 2)
        self.refuses(4000, (schema, numbers, rules), 3)

    def test_near_the_limit_in_time(self):
        source = random.Random(9)
        for schema, many, degree in ((TERNARY, 4, 2), (BINARY, 5, 3), (BINARY, 6, 2), (ROW, 6, 3), (TERNARY, 2, 3)):
            for factors in ((1, 2, -1, 3), (0, 0, 1)):
                numbers = {kind: tuple(f"n{n}" for n in range(many)) for kind in schema}
                rules = random_rules(source, schema, numbers, [factor for factor in factors if factor], 3)
                start = time.process_time()
                self.allows((schema, numbers, rules), degree)
                # Both calls together take a fraction of a second; the bound is for slow machines.
                self.assertLess(time.process_time() - start, 10)


class WrongInputsTest(unittest.TestCase):
    def test_no_sheet(self):
        for call in (first_trees, equations):
            for thing in ALIENS + (0, (), BINARY, TAGS[:2], list(TAGS)):
                for degree in (1, None, 4):
                    with self.assertRaises(NoSheet):
                        call(thing, degree)

    def test_changed_at_one_place(self):
        for changed in list(with_aliens(SUMS)):
            if is_sheet(changed):
                self.assertEqual(list(equations(changed, 1)), ["row"])
            else:
                with self.assertRaises(NoSheet):
                    equations(changed, 1)

    def test_no_degree(self):
        for call in (first_trees, equations):
            for degree in ALIENS + (0, 4, True, False, "1", (1,), Form.number(1)):
                with self.assertRaises(NoForm):
                    call(TAGS, degree)

    def test_no_form_ahead_of_too_many(self):
        schema = {"k": (("u", ("k", "k", "k")),)}
        sheet = (schema, {"k": tuple("abcdef")}, {"u": ((),) * 6})
        for degree in (0, 4, None, True):
            with self.assertRaises(NoForm):
                equations(sheet, degree)

    def test_what_is_passed_stays_and_dicts_are_new(self):
        for call in (first_trees, equations):
            sheet = copy.deepcopy(DEPTHS)
            found = call(sheet, 2)
            kept = dict(found)
            found.clear()
            again = call(sheet, 2)
            self.assertEqual(again, kept)
            self.assertEqual(sheet, DEPTHS)
            sheet[2].clear()
            self.assertEqual(again, kept)
