import copy
import unittest

from samples import ALIENS, BINARY, CHAIN, LATE_LEAF, PARTLY, ROSE, ROW, SCHEMAS, TERNARY, WIDE
from samples import all_up_to, comb, nested, paths_of, row, size, with_aliens, with_lists
from treelaws.errors import NoPath
from treelaws.trees import is_tree, least_tree, part_at, paths, put_at, size_of

MIXED = ("join", ("join", ("leaf",), ("leaf",)), ("leaf",))
FORK = ("fork", ("leaf",), ("fork", ("leaf",), ("leaf",), ("leaf",)), ("leaf",))
ROSE_TREE = ("node", ("cons", ("node", ("nil",)), ("cons", ("node", ("nil",)), ("nil",))))
NO_PATHS = ((2,), (-1,), (0, 2), (0, -1), (1, 0), (0, 0, 0), (0, 1, 0), (10 ** 30,), (True,), (False,), (0, True),
            (0, False), ("0",), (None,), ((0,),), ([0],), ((),), [], [0], "", "0", 0, 1, True, False, None, {}, {0: 0},
            (0,) * 5000, nested(200, lambda thing: (0, thing)))


class IsTreeTest(unittest.TestCase):
    def test_just_all_small_trees(self):
        for schema in SCHEMAS[:6]:
            small = all_up_to(schema, 7)
            for kind in schema:
                for other, some in small.items():
                    for tree in some:
                        self.assertIs(is_tree(schema, kind, tree), kind == other)

    def test_number_of_parts(self):
        leaf = ("leaf",)
        for many in range(6):
            self.assertIs(is_tree(BINARY, "tree", ("leaf",) + (leaf,) * many), many == 0)
            self.assertIs(is_tree(BINARY, "tree", ("join",) + (leaf,) * many), many == 2)
            self.assertIs(is_tree(BINARY, "tree", ("join", leaf, ("join",) + (leaf,) * many)), many == 2)
            self.assertIs(is_tree(TERNARY, "tree", ("fork",) + (leaf,) * many), many == 3)

    def test_kinds_of_parts(self):
        self.assertIs(is_tree(ROSE, "tree", ROSE_TREE), True)
        self.assertIs(is_tree(ROSE, "list", ROSE_TREE), False)
        self.assertIs(is_tree(ROSE, "tree", ("node", ROSE_TREE)), False)
        self.assertIs(is_tree(ROSE, "list", ("cons", ("nil",), ("nil",))), False)
        self.assertIs(is_tree(PARTLY, "none", ("unit",)), False)

    def test_other_objects(self):
        for thing in ALIENS + ((), 0, "leaf", ("tree",), ("leaf", ()), ("lea",), {"leaf": None}, BINARY):
            self.assertIs(is_tree(BINARY, "tree", thing), False)

    def test_changed_at_one_place(self):
        for schema, kind, tree in ((BINARY, "tree", MIXED), (TERNARY, "tree", FORK), (ROSE, "tree", ROSE_TREE)):
            self.assertIs(is_tree(schema, kind, tree), True)
            for changed in list(with_aliens(tree)) + list(with_lists(tree)):
                self.assertIs(is_tree(schema, kind, changed), False)

    def test_many_tags_and_deep_trees(self):
        for tags in (199, 201, 401, 3001):
            self.assertIs(is_tree(BINARY, "tree", comb(tags)), True)
            self.assertIs(is_tree(ROW, "row", row(tags)), True)
            self.assertIs(is_tree(ROW, "row", put_at(row(tags), (0,) * (tags - 1), ("leaf",))), False)


class PartsTest(unittest.TestCase):
    def test_sizes_and_paths(self):
        for schema in SCHEMAS[:7]:
            for some in all_up_to(schema, 6).values():
                for tree in some:
                    self.assertEqual(size_of(tree), size(tree))
                    self.assertEqual(paths(tree), paths_of(tree))

    def test_paths_from_the_left(self):
        self.assertEqual(paths(MIXED), [(), (0,), (0, 0), (0, 1), (1,)])
        self.assertEqual(paths(FORK), [(), (0,), (1,), (1, 0), (1, 1), (1, 2), (2,)])
        self.assertEqual(paths(("leaf",)), [()])

    def test_parts(self):
        self.assertEqual(part_at(MIXED, ()), MIXED)
        self.assertEqual(part_at(MIXED, (0,)), ("join", ("leaf",), ("leaf",)))
        self.assertEqual(part_at(FORK, (1, 2)), ("leaf",))
        self.assertEqual(part_at(ROSE_TREE, (0, 1)), ("cons", ("node", ("nil",)), ("nil",)))

    def test_put(self):
        new = ("join", ("leaf",), ("leaf",))
        self.assertEqual(put_at(MIXED, (), new), new)
        self.assertEqual(put_at(MIXED, (1,), new), ("join", new, new))
        self.assertEqual(put_at(MIXED, (0, 0), new), ("join", ("join", new, ("leaf",)), ("leaf",)))
        self.assertEqual(put_at(("fork", 1, 2, 3), (1,), 4), ("fork", 1, 4, 3))
        self.assertEqual(put_at(FORK, (1, 2), ("x",)), FORK[:2] + (("fork", ("leaf",), ("leaf",), ("x",)),) + FORK[3:])

    def test_put_changes_just_one_part(self):
        mark = ("mark", ("a",), ("b",))
        for tree in all_up_to(WIDE, 5)["x"]:
            for path in paths_of(tree):
                changed = put_at(tree, path, mark)
                self.assertEqual(part_at(changed, path), mark)
                self.assertEqual(put_at(changed, path, part_at(tree, path)), tree)

    def test_no_path(self):
        for path in NO_PATHS:
            with self.assertRaises(NoPath):
                part_at(MIXED, path)
            with self.assertRaises(NoPath):
                put_at(MIXED, path, ("leaf",))

    def test_paths_changed_at_one_place(self):
        for tree in (MIXED, FORK, ROSE_TREE):
            right = paths_of(tree)
            for path in right:
                wrong = [path + (len(part_at(tree, path)) - 1,), path + (-1,), list(path)] + list(with_aliens(path))
                for thing in wrong:
                    with self.assertRaises(NoPath):
                        part_at(tree, thing)
                    with self.assertRaises(NoPath):
                        put_at(tree, thing, tree)

    def test_a_truth_is_no_index(self):
        for path in ((True,), (False,), (0, True), (0, False)):
            with self.assertRaises(NoPath):
                part_at(MIXED, path)

    def test_two_hundred_tags_and_more(self):
        for tags in (199, 201, 401):
            tree, deepest = comb(tags), (0,) * (tags // 2)
            self.assertEqual(size_of(tree), tags)
            self.assertEqual(len(paths(tree)), tags)
            self.assertEqual(paths(tree)[tags // 2], deepest)
            self.assertEqual(part_at(tree, deepest), ("leaf",))
            self.assertEqual(size_of(put_at(tree, deepest, comb(199))), tags + 198)
        self.assertEqual(size_of(row(200)), 200)

    def test_lists_are_new_and_what_is_passed_stays(self):
        path, before = (0, 1), copy.deepcopy(MIXED)
        first = paths(MIXED)
        first.clear()
        self.assertEqual(len(paths(MIXED)), 5)
        put_at(MIXED, path, ("leaf",))
        self.assertEqual((MIXED, path), (before, (0, 1)))


class LeastTreeTest(unittest.TestCase):
    def test_least_trees(self):
        self.assertEqual(least_tree(BINARY, "tree"), ("leaf",))
        self.assertEqual(least_tree(LATE_LEAF, "tree"), ("leaf",))
        self.assertEqual(least_tree(ROSE, "tree"), ("node", ("nil",)))
        self.assertEqual(least_tree(PARTLY, "a"), ("bare",))

    def test_none_at_an_empty_kind(self):
        self.assertIsNone(least_tree(PARTLY, "b"))
        self.assertIsNone(least_tree(PARTLY, "none"))
        self.assertIsNone(least_tree({"a": ()}, "a"))
        self.assertIsNone(least_tree({"a": (("t", ("a",)),)}, "a"))

    def test_the_first_variant_of_the_least_size(self):
        one = {"a": (("two", ("b", "b")), ("deep", ("c",)), ("wide", ("b", "b"))), "b": (("x", ()), ("y", ())),
               "c": (("mid", ("b",)),)}
        self.assertEqual(least_tree(one, "a"), ("two", ("x",), ("x",)))
        other = {"a": (("deep", ("c",)), ("two", ("b", "b"))), "b": (("x", ()),), "c": (("mid", ("b",)),)}
        self.assertEqual(least_tree(other, "a"), ("deep", ("mid", ("x",))))

    def test_a_deeper_tree_may_be_smaller(self):
        schema = {"a": (("bush", ("d", "d", "d")), ("pole", ("b",))), "b": (("next", ("c",)),), "c": (("stop", ()),),
                  "d": (("twig", ("c",)),)}
        self.assertEqual(least_tree(schema, "a"), ("pole", ("next", ("stop",))))

    def test_a_chain_of_six_kinds(self):
        tree = least_tree(CHAIN, "k1")
        self.assertIs(is_tree(CHAIN, "k1", tree), True)
        self.assertEqual(size_of(tree), 364)
        self.assertEqual(size_of(least_tree(CHAIN, "k2")), 121)
