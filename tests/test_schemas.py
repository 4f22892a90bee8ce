import copy
import unittest

from samples import ALIENS, BACK, BINARY, CHAIN, PARTLY, ROSE, ROW, SCHEMAS, WIDE
from samples import all_up_to, has_tree, kinds_in_trees, random_schemas, with_aliens, with_lists
from treelaws.schemas import children_of, empty_kinds, is_schema, kind_of, kinds_within, tags_of

RANDOM = tuple(random_schemas(150, 2))


def tags_in(tree):
    return {tree[0]}.union(*[tags_in(part) for part in tree[1:]])


class IsSchemaTest(unittest.TestCase):
    def yes(self, thing):
        self.assertIs(is_schema(thing), True, thing)

    def no(self, thing):
        self.assertIs(is_schema(thing), False)

    def test_schemas(self):
        for schema in SCHEMAS + RANDOM:
            self.yes(schema)
        self.yes({"a": ()})
        self.yes({"a": (("a", ("a",)),)})
        self.yes({"abcdefgh": (("a2345678", ("abcdefgh",)),)})

    def test_number_of_kinds(self):
        for many in range(9):
            thing = {f"k{n}": () for n in range(many)}
            self.assertIs(is_schema(thing), 1 <= many <= 6)

    def test_number_of_variants(self):
        for many in range(7):
            thing = {"k": tuple((f"t{n}", ()) for n in range(many))}
            self.assertIs(is_schema(thing), many <= 4)

    def test_number_of_children(self):
        for many in range(6):
            self.assertIs(is_schema({"k": (("t", ("k",) * many),)}), many <= 3)

    def test_number_of_tags(self):
        def spread(counts):
            return {f"k{k}": tuple((f"t{k}x{n}", ()) for n in range(many)) for k, many in enumerate(counts)}
        for counts in ((4, 4, 4), (2, 2, 2, 2, 2, 2), (4, 4, 3, 1, 0, 0)):
            self.yes(spread(counts))
        for counts in ((4, 4, 4, 1), (3, 2, 2, 2, 2, 2), (4, 4, 4, 4, 4, 4)):
            self.no(spread(counts))

    def test_names_one_beyond(self):
        for name in ("", "abcdefghi", "1a", "A", "a b", "a-b"):
            self.no({name: ()})
            self.no({"k": ((name, ()),)})
            self.no({"k": (("t", (name,)),)})
        for key in (None, True, 1, ("k",)):
            self.no({key: ()})
            self.no({"k": (), key: ()})

    def test_tags_stand_once(self):
        self.no({"k": (("t", ()), ("t", ("k",)))})
        self.no({"k": (("t", ()),), "m": (("t", ()),)})

    def test_children_are_kinds_of_the_schema(self):
        self.no({"k": (("t", ("m",)),)})
        self.no({"k": (("t", ("t",)),)})
        self.yes({"k": (("t", ("m",)),), "m": ()})

    def test_variants_are_pairs(self):
        for variant in ((), ("t",), ("t", (), ()), ("t", "k"), ((), "t"), "tk"):
            self.no({"k": (variant,)})
        self.no({"k": ("t", ())})

    def test_other_objects(self):
        for thing in ALIENS + ((), 0, "k", ("k", ()), [BINARY], (BINARY,), tuple(BINARY.items())):
            self.no(thing)

    def test_changed_at_one_place(self):
        for schema in SCHEMAS[:6]:
            for changed in with_aliens(schema):
                self.no(changed)
            for changed in with_lists(schema):
                self.no(changed)

    def test_parts_left_out_and_doubled(self):
        self.no({"row": BINARY["tree"]})
        self.no({**ROSE, "more": ROSE["list"]})
        self.no({"tree": ROSE["tree"]})
        self.no({"tree": BINARY["tree"] * 2})


class LookupTest(unittest.TestCase):
    def test_tags_kinds_and_children(self):
        for schema in SCHEMAS + RANDOM:
            tags = [tag for variants in schema.values() for tag, _ in variants]
            self.assertEqual(tags_of(schema), tags)
            for kind, variants in schema.items():
                for tag, children in variants:
                    self.assertEqual(kind_of(schema, tag), kind)
                    self.assertEqual(children_of(schema, tag), children)

    def test_order_of_tags(self):
        self.assertEqual(tags_of(PARTLY), ["stuck", "lost", "deep", "top", "bare", "unit"])
        self.assertEqual(tags_of(BACK), ["t6", "t5", "t4", "t3", "t2", "t1", "again"])
        self.assertEqual(tags_of({"a": ()}), [])

    def test_other_tags(self):
        for tag in ("", "tree", "Leaf", "leaf ", "no", "a" * 10000, "lea"):
            self.assertIsNone(kind_of(BINARY, tag))
            self.assertIsNone(children_of(BINARY, tag))

    def test_leaf_and_unknown_tag_differ(self):
        self.assertEqual(children_of(BINARY, "leaf"), ())
        self.assertEqual(kind_of(PARTLY, "unit"), "c")


class KindsTest(unittest.TestCase):
    def test_empty_kinds(self):
        self.assertEqual(empty_kinds(PARTLY), ["b", "none"])
        self.assertEqual(empty_kinds({"b": (), "a": (("t", ("b",)),)}), ["a", "b"])
        self.assertEqual(empty_kinds({"a": (("t", ("a",)),)}), ["a"])
        for schema in (BINARY, ROW, ROSE, WIDE, CHAIN, BACK):
            self.assertEqual(empty_kinds(schema), [])

    def test_kinds_within(self):
        self.assertEqual(kinds_within(PARTLY, "a"), ["a", "c"])
        self.assertEqual(kinds_within(PARTLY, "b"), [])
        self.assertEqual(kinds_within(PARTLY, "none"), [])
        self.assertEqual(kinds_within(PARTLY, "c"), ["c"])
        self.assertEqual(kinds_within(CHAIN, "k3"), ["k3", "k4", "k5", "k6"])
        self.assertEqual(kinds_within(BACK, "k4"), ["k1", "k2", "k3", "k4", "k5", "k6"])
        self.assertEqual(kinds_within({"b": (("t", ("a",)),), "a": (("u", ()),)}, "b"), ["a", "b"])

    def test_random_schemas(self):
        for schema in RANDOM + SCHEMAS:
            self.assertEqual(empty_kinds(schema), sorted(kind for kind in schema if not has_tree(schema, kind)))
            for kind in schema:
                self.assertEqual(kinds_within(schema, kind), sorted(kinds_in_trees(schema, kind)))

    def test_as_small_trees_tell(self):
        for schema in RANDOM:
            for kind, small in all_up_to(schema, 4).items():
                within = kinds_within(schema, kind)
                self.assertTrue(not small or kind not in empty_kinds(schema))
                for tree in small:
                    self.assertLessEqual({kind_of(schema, tag) for tag in tags_in(tree)}, set(within))


class NothingChangesTest(unittest.TestCase):
    def test_what_is_passed_stays_and_lists_are_new(self):
        for schema in SCHEMAS:
            before = copy.deepcopy(schema)
            kind = list(schema)[0]
            for call in (lambda: tags_of(schema), lambda: empty_kinds(schema), lambda: kinds_within(schema, kind)):
                first = call()
                kept = list(first)
                first.append("changed")
                self.assertEqual(call(), kept)
            is_schema(schema)
            kind_of(schema, "leaf")
            children_of(schema, "leaf")
            self.assertEqual(list(schema.items()), list(before.items()))
