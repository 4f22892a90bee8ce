import copy
import random
import unittest

from oracles import EMPTY, MIXED, NUMBERLESS, PRODUCTS, SHEETS, SUMS, TAGS, random_sheets, value
from samples import ALIENS, BINARY, ROW, all_up_to, comb, paths_of, row, with_aliens, with_lists
from treelaws.integers import is_integer
from treelaws.sheets import all_values, is_sheet, named_values, renamed, values
from treelaws.trees import part_at

RANDOM = tuple(random_sheets(120, 4, 1)) + tuple(random_sheets(40, 6, 2, factors=(10 ** 6, -10 ** 6, 7), most=8))
NINE = [(1, ())] + [(1, ((0, name),)) for name in "abcdef"] + [(1, ((0, "a"), (1, name))) for name in "ab"]


def one_rule(rule, many=2, names=("a", "b", "c", "d", "e", "f")):
    """A sheet with one kind, whose last tag has many children, and one rule in question."""
    schema = {"k": (("t", ()), ("u", ("k",) * many))}
    return schema, {"k": names}, {"t": ((),) * len(names), "u": (rule,) + ((),) * (len(names) - 1)}


def with_factor(sheet, factor):
    """All sheets that come from one if one factor in its rules becomes another one."""
    schema, numbers, rules = sheet
    for tag, some in rules.items():
        for at, rule in enumerate(some):
            for place, (_, uses) in enumerate(rule):
                other = rule[:place] + ((factor, uses),) + rule[place + 1:]
                yield schema, numbers, {**rules, tag: some[:at] + (other,) + some[at + 1:]}


class IsSheetTest(unittest.TestCase):
    def yes(self, thing):
        self.assertIs(is_sheet(thing), True, thing)

    def no(self, thing):
        self.assertIs(is_sheet(thing), False, thing)

    def test_sheets(self):
        for sheet in SHEETS + RANDOM:
            self.yes(sheet)
            self.yes(copy.deepcopy(sheet))

    def test_other_objects(self):
        for thing in ALIENS + ((), 0, BINARY, ({}, {}, {}), [BINARY, {}, {}], TAGS[:2], TAGS + ((),), list(TAGS), TAGS[0]):
            self.no(thing)

    def test_changed_at_one_place(self):
        for sheet in (TAGS, MIXED, PRODUCTS, EMPTY):
            # The only alien that can stand anywhere is the factor -1.
            right = {repr(changed) for changed in with_factor(sheet, -1)}
            for changed in with_aliens(sheet):
                self.assertIs(is_sheet(changed), repr(changed) in right)
            for changed in with_lists(sheet):
                self.no(changed)

    def test_where_minus_one_may_stand(self):
        for rule, right in ((((-1, ()),), True), (((1, ((-1, "a"),)),), False), (((-1, ((0, "a"),)),), True), ((-1,), False)):
            self.assertIs(is_sheet(one_rule(rule)), right)

    def test_numbers(self):
        for many in range(9):
            self.assertIs(is_sheet(({"k": ()}, {"k": tuple(f"n{n}" for n in range(many))}, {})), many <= 6)
        self.no(({"k": ()}, {"k": ("a", "b", "a")}, {}))
        self.no(({"k": ()}, {"k": ("a", "B")}, {}))
        self.no(({"k": ()}, {"k": ["a"]}, {}))
        self.no(({"k": ()}, {}, {}))
        self.no(({"k": ()}, {"k": (), "l": ()}, {}))
        self.yes(({"k": (), "l": ()}, {"k": ("a",), "l": ("a",)}, {}))
        self.no(({"k": (), "l": ()}, {"l": ("a",), "k": ("a",)}, {}))

    def test_order_of_tags(self):
        schema, numbers, rules = MIXED
        for tags in (("cons", "nil", "one", "nest"), ("one", "nest", "nil", "cons"), ("nil", "cons", "one")):
            self.no((schema, numbers, {tag: rules[tag] for tag in tags}))
        self.no((schema, numbers, {**rules, "more": ()}))
        self.no((schema, numbers, list(rules.items())))
        self.yes((schema, numbers, {tag: rules[tag] for tag in ("nil", "cons", "one", "nest")}))

    def test_number_of_rules(self):
        for many in range(5):
            self.assertIs(is_sheet((ROW, {"row": ("a", "b")}, {"end": ((),) * many, "more": ((), ())})), many == 2)
        self.yes((ROW, {"row": ()}, {"end": (), "more": ()}))

    def test_number_of_terms(self):
        ordered = sorted(NINE, key=lambda term: term[1])
        for many in range(10):
            self.assertIs(is_sheet(one_rule(tuple(ordered[:many]))), many <= 8)

    def test_terms_ascend(self):
        a, b, ab, ba, none = ((0, "a"),), ((0, "b"),), ((0, "a"), (1, "b")), ((0, "b"), (1, "a")), ()
        for uses in ([none, a], [a, ab], [ab, b], [none, a, ab, b, ba, ((1, "a"),)], [((1, "a"),), ((1, "b"),)]):
            self.yes(one_rule(tuple((1, use) for use in uses)))
            self.no(one_rule(tuple((1, use) for use in uses[::-1])))
            self.no(one_rule(tuple((1, use) for use in [uses[0]] + uses)))
            self.no(one_rule(tuple((2, use) for use in uses + [uses[-1]])))

    def test_factors(self):
        for factor in (1, -1, 10 ** 6, -10 ** 6, 999999):
            self.yes(one_rule(((factor, ()),)))
        for factor in (0, 10 ** 6 + 1, -10 ** 6 - 1, 10 ** 40, True, False, None, "1", (1,), [1]):
            self.no(one_rule(((factor, ()),)))

    def test_uses(self):
        for uses in ((), ((0, "a"),), ((1, "f"),), ((2, "a"),), ((0, "a"), (1, "a"), (2, "f")), ((0, "b"), (2, "a"))):
            self.yes(one_rule(((1, uses),), 3))
        for uses in (((3, "a"),), ((-1, "a"),), ((True, "a"),), ((0, "g"),), ((0, "a"), (0, "a")), ((0, "a"), (0, "b")),
                     ((1, "a"), (0, "a")), ((0,),), ((0, "a", 1),), (("a", 0),), (0, "a"), [(0, "a")], ([0, "a"],), ((0, ["a"]),),
                     ((0, None),), None, "a", 0):
            self.no(one_rule(((1, uses),), 3))
        for many in range(4):
            self.assertIs(is_sheet(one_rule(((1, ((1, "a"),)),), many)), many > 1)

    def test_numbers_of_the_childs_kind(self):
        schema, numbers, rules = MIXED
        self.no((schema, numbers, {**rules, "cons": (rules["cons"][0], ((1, ((0, "len"),)),))}))
        self.no((schema, numbers, {**rules, "nest": (((1, ((0, "worth"),)),),)}))
        self.yes((schema, numbers, {**rules, "nest": (((1, ((0, "len"),)),),)}))

    def test_terms_of_other_shape(self):
        for term in ((1,), (1, (), ()), [1, ()], ((), 1), 1, (), None, (1, None)):
            self.no(one_rule((term,)))


class ValuesTest(unittest.TestCase):
    def test_values_by_definition(self):
        for sheet in SHEETS + RANDOM:
            for kind, trees in all_up_to(sheet[0], 4).items():
                for tree in sorted(trees)[:40]:
                    told = value(sheet, tree)
                    self.assertEqual(values(sheet, tree), tuple(told.values()))
                    named = named_values(sheet, tree)
                    self.assertEqual(list(named.items()), list(told.items()))
                    self.assertEqual(tuple(named), sheet[1][kind])
                    found = all_values(sheet, tree)
                    self.assertEqual(list(found), paths_of(tree))
                    for path, worths in found.items():
                        self.assertEqual(worths, tuple(value(sheet, part_at(tree, path)).values()))

    def test_in_plain_words(self):
        self.assertEqual(values(TAGS, comb(5)), (5, 3, 2))
        self.assertEqual(named_values(SUMS, row(5)), {"steps": 4, "sum": 6})
        self.assertEqual(all_values(TAGS, comb(3)), {(): (3, 2, 1), (0,): (1, 1, 0), (1,): (1, 1, 0)})
        self.assertEqual(values(NUMBERLESS, comb(3)), ())
        self.assertEqual(all_values(NUMBERLESS, comb(3)), {(): (), (0,): (), (1,): ()})

    def test_two_hundred_tags_and_more(self):
        for tags in (199, 201, 401):
            self.assertEqual(values(TAGS, comb(tags)), (tags, tags // 2 + 1, tags // 2))
            self.assertEqual(len(all_values(TAGS, comb(tags))), tags)
        steep = (ROW, {"row": ("x",)}, {"end": (((10 ** 6, ()),),), "more": (((10 ** 6, ((0, "x"),)),),)})
        self.assertEqual(values(steep, row(200)), (10 ** 1200,))

    def test_kinds_of_values(self):
        for worth in values(PRODUCTS, comb(9)):
            self.assertTrue(is_integer(worth))
        self.assertIsInstance(values(TAGS, comb(3)), tuple)

    def test_what_is_passed_stays_and_dicts_are_new(self):
        sheet, tree = copy.deepcopy(TAGS), comb(5)
        for call in (named_values, all_values):
            found = call(sheet, tree)
            kept = dict(found)
            found.clear()
            self.assertEqual(call(sheet, tree), kept)
        is_sheet(sheet)
        values(sheet, tree)
        self.assertEqual((sheet, tree), (TAGS, comb(5)))
        self.assertEqual(list(sheet[2]), list(TAGS[2]))


class RenamedTest(unittest.TestCase):
    def test_values_stay(self):
        source = random.Random(3)
        for sheet in SHEETS + RANDOM:
            old = sorted({name for names in sheet[1].values() for name in names})
            for new in (source.sample(old, len(old)), source.sample([f"n{n}" for n in range(20)], len(old))):
                names = dict(zip(old, new))
                found = renamed(sheet, names)
                self.assertIs(is_sheet(found), True)
                self.assertEqual(found[0], sheet[0])
                self.assertEqual(list(found[1].items()),
                                 [(kind, tuple(names[name] for name in some)) for kind, some in sheet[1].items()])
                for trees in all_up_to(sheet[0], 3).values():
                    for tree in sorted(trees)[:10]:
                        self.assertEqual(values(found, tree), values(sheet, tree))

    def test_terms_are_sorted_anew(self):
        rule = ((2, ()), (3, ((0, "a"),)), (4, ((0, "a"), (1, "b"))), (5, ((0, "b"),)), (6, ((1, "a"),)), (7, ((1, "b"),)))
        sheet = one_rule(rule, names=("a", "b"))
        found = renamed(sheet, {"a": "z"})
        self.assertEqual(found[2]["u"][0], ((2, ()), (5, ((0, "b"),)), (3, ((0, "z"),)), (4, ((0, "z"), (1, "b"))),
                                            (7, ((1, "b"),)), (6, ((1, "z"),))))
        self.assertEqual(renamed(found, {"z": "a"}), sheet)

    def test_exchanged_names(self):
        found = renamed(SUMS, {"steps": "sum", "sum": "steps"})
        self.assertEqual(found[1], {"row": ("sum", "steps")})
        self.assertEqual(found[2]["more"], (((1, ()), (1, ((0, "sum"),))), ((1, ((0, "steps"),)), (1, ((0, "sum"),)))))

    def test_lacking_and_other_names(self):
        self.assertEqual(renamed(TAGS, {}), TAGS)
        self.assertEqual(renamed(TAGS, {"other": "tags"}), TAGS)
        self.assertEqual(renamed(TAGS, {"tags": "nodes"})[1], {"tree": ("nodes", "leaves", "joins")})

    def test_the_names_of_several_kinds(self):
        found = renamed(EMPTY, {"b": "c"})
        self.assertEqual(found[1], {"none": ("a", "c"), "some": ("c",)})
        self.assertEqual(found[2]["never"], (((3, ((0, "a"), (1, "c"))),),))

    def test_kinds_and_tags_stay(self):
        sheet = ({"a": (("b", ()), ("c", ("a",)))}, {"a": ("a", "b")}, {"b": ((), ()), "c": (((1, ((0, "a"),)),), ())})
        found = renamed(sheet, {"a": "x", "b": "y"})
        self.assertEqual(found, (sheet[0], {"a": ("x", "y")}, {"b": ((), ()), "c": (((1, ((0, "x"),)),), ())}))

    def test_what_is_passed_stays_and_the_sheet_is_new(self):
        sheet, names = copy.deepcopy(TAGS), {"tags": "nodes"}
        found = renamed(sheet, names)
        for part in found:
            part.clear()
        self.assertEqual((sheet, names), (TAGS, {"tags": "nodes"}))
        again = renamed(sheet, names)
        sheet[0].clear()
        self.assertEqual(again[0], BINARY)
