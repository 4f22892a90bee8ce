import copy
import itertools
import math
import random
import unittest

from samples import BACK, BINARY, CHAIN, LATE_LEAF, PARTLY, ROSE, ROW, SCHEMAS, TERNARY, WIDE
from samples import all_up_to, comb, compare, ordered, random_schemas, row, size
from treelaws.trees import how_many, in_order, is_tree, least_tree, put_at, trees

RANDOM = tuple(random_schemas(60, 4))
MOTZKIN = {"t": (("leaf", ()), ("one", ("t",)), ("two", ("t", "t")))}
VERY_MANY = {"t": (("a", ("t", "t", "t")), ("b", ("t", "t")), ("c", ("t",)), ("d", ()))}


def motzkin(n):
    numbers = [1, 1]
    while len(numbers) <= n:
        k = len(numbers)
        numbers.append(((2 * k + 1) * numbers[k - 1] + (3 * k - 3) * numbers[k - 2]) // (k + 2))
    return numbers[n]


class AllTreesTest(unittest.TestCase):
    def check_all(self, schema, most):
        small = all_up_to(schema, most)
        for kind in schema:
            expected = ordered(schema, kind, small[kind])
            found = [list(trees(schema, kind, tags)) for tags in range(most + 1)]
            self.assertEqual([tree for some in found for tree in some], expected)
            self.assertEqual([how_many(schema, kind, tags) for tags in range(most + 1)], [len(some) for some in found])
            self.assertTrue(all(size(tree) == tags for tags, some in enumerate(found) for tree in some))
            if expected:
                self.assertEqual(least_tree(schema, kind), expected[0])

    def test_named_schemas(self):
        for schema, most in ((BINARY, 11), (ROW, 11), (LATE_LEAF, 8), (TERNARY, 13), (ROSE, 8), (PARTLY, 6),
                             (WIDE, 6), (BACK, 13), (MOTZKIN, 8), (VERY_MANY, 6)):
            self.check_all(schema, most)

    def test_random_schemas(self):
        for schema in RANDOM:
            self.check_all(schema, 6)

    def test_in_plain_words(self):
        leaf, wrap = ("leaf",), ("wrap", ("leaf",))
        self.assertEqual(list(trees(LATE_LEAF, "tree", 4)), [
            ("join", leaf, wrap), ("join", wrap, leaf), ("wrap", ("join", leaf, leaf)), ("wrap", ("wrap", wrap))])

    def test_size_nought(self):
        for schema in SCHEMAS:
            for kind in schema:
                self.assertEqual(list(trees(schema, kind, 0)), [])
                self.assertEqual(how_many(schema, kind, 0), 0)

    def test_empty_kinds(self):
        for tags in range(42):
            self.assertEqual(list(trees(PARTLY, "b", tags)), [])
            self.assertEqual(how_many(PARTLY, "none", tags), 0)

    def test_size_forty(self):
        self.assertEqual(list(trees(ROW, "row", 40)), [row(40)])
        self.assertEqual(list(trees(ROW, "row", 41)), [row(41)])
        self.assertEqual(list(trees(BINARY, "tree", 40)), [])
        self.assertEqual(list(trees(CHAIN, "k1", 40)), [])
        self.assertEqual(list(trees(CHAIN, "k3", 40)), [least_tree(CHAIN, "k3")])
        self.assertEqual([size(tree) for tree in trees(BACK, "k4", 40)], [40])

    def test_counts_up_to_forty(self):
        for tags in range(1, 43):
            half, third = (tags - 1) // 2, (tags - 1) // 3
            self.assertEqual(how_many(ROW, "row", tags), 1)
            self.assertEqual(how_many(BINARY, "tree", tags), tags % 2 and math.comb(2 * half, half) // (half + 1))
            self.assertEqual(how_many(TERNARY, "tree", tags),
                             math.comb(3 * third, third) // (2 * third + 1) if tags % 3 == 1 else 0)
            self.assertEqual(how_many(MOTZKIN, "t", tags), motzkin(tags - 1))
            self.assertEqual(how_many(BACK, "k4", tags), int(tags % 6 == 4))

    def test_the_first_ones_of_very_many(self):
        self.assertGreater(how_many(VERY_MANY, "t", 40), 10 ** 15)
        for schema, kind in ((VERY_MANY, "t"), (WIDE, "x"), (WIDE, "z"), (MOTZKIN, "t")):
            some = list(itertools.islice(trees(schema, kind, 40), 300))
            self.assertEqual(len(some), 300)
            for tree in some:
                self.assertTrue(is_tree(schema, kind, tree) and size(tree) == 40)
            for one, other in zip(some, some[1:]):
                self.assertLess(compare(schema, kind, one, other), 0)

    def test_the_very_first_of_very_many(self):
        tree = ("d",)
        for _ in range(13):
            tree = ("a", ("d",), ("d",), tree)
        self.assertEqual(next(trees(VERY_MANY, "t", 40)), tree)

    def test_a_generator_goes_on_with_the_schema_of_its_start(self):
        schema = dict(BINARY)
        expected = list(trees(BINARY, "tree", 7))
        running = trees(schema, "tree", 7)
        some = [next(running)]
        schema["tree"] = (("leaf", ()),)
        schema["more"] = ()
        self.assertEqual(some + list(running), expected)
        self.assertEqual(list(trees(schema, "tree", 7)), [])


class InOrderTest(unittest.TestCase):
    def test_orders_and_leaves_out_duplicates(self):
        source = random.Random(7)
        for schema in (BINARY, LATE_LEAF, ROSE, PARTLY, BACK) + RANDOM[:20]:
            for kind, small in all_up_to(schema, 6).items():
                expected = ordered(schema, kind, small)
                for outer in (list, tuple):
                    some = list(expected) + [copy.deepcopy(tree) for tree in expected if source.random() < 0.3]
                    source.shuffle(some)
                    self.assertEqual(in_order(schema, outer(some)), expected)

    def test_few_trees(self):
        self.assertEqual(in_order(BINARY, []), [])
        self.assertEqual(in_order(BINARY, ()), [])
        self.assertEqual(in_order(BINARY, (("leaf",),)), [("leaf",)])
        self.assertEqual(in_order(BINARY, [comb(3), ("leaf",), comb(3)]), [("leaf",), comb(3)])

    def test_size_then_place_then_parts(self):
        leaf, wrap = ("leaf",), ("wrap", ("leaf",))
        some = [("wrap", wrap), ("join", leaf, leaf), ("join", wrap, leaf), ("join", leaf, wrap), wrap, leaf]
        self.assertEqual(in_order(LATE_LEAF, some), [leaf, wrap, ("join", leaf, leaf), ("wrap", wrap),
                                                     ("join", leaf, wrap), ("join", wrap, leaf)])

    def test_the_place_counts_not_the_name(self):
        schema = {"a": (("z", ()), ("b", ("k",))), "k": (("y", ()), ("x", ()), ("c", ()))}
        some = [("b", ("c",)), ("b", ("x",)), ("z",), ("b", ("y",))]
        self.assertEqual(in_order(schema, some), [("z",), ("b", ("y",)), ("b", ("x",)), ("b", ("c",))])

    def test_great_trees(self):
        deepest = (0,) * 99
        greater = put_at(comb(199), deepest, comb(3))
        other = put_at(comb(199), (1,), comb(3))
        self.assertEqual(in_order(BINARY, [greater, other, comb(199), greater]), [comb(199), other, greater])
        self.assertEqual(in_order(ROW, [row(tags) for tags in (300, 200, 7, 200)]), [row(7), row(200), row(300)])

    def test_what_is_passed_stays_and_the_list_is_new(self):
        some = [comb(3), ("leaf",)]
        schema = copy.deepcopy(BINARY)
        found = in_order(schema, some)
        self.assertEqual((some, schema), ([comb(3), ("leaf",)], BINARY))
        self.assertIsNot(found, some)
        already = [("leaf",), comb(3)]
        self.assertIsNot(in_order(schema, already), already)
        how_many(schema, "tree", 9)
        least_tree(schema, "tree")
        list(trees(schema, "tree", 9))
        self.assertEqual(schema, BINARY)
