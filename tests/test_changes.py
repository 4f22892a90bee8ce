import copy
import itertools
import random
import unittest

from oracles import DEPTHS, EMPTY, MIXED, NUMBERLESS, SHEETS, SUMS, TAGS
from oracles import all_trees, products, random_rules, random_sheets, value, value_of
from samples import ALIENS, BINARY, CHAIN, ROW, TERNARY, ordered, random_schema
from slow_filters import counting, everything, lets, random_filter, search_under
from test_filters import COMB, bare, counters, limit_of
from treelaws.breaks import first_break
from treelaws.changes import (cheapest_filters, compared_equations, joined, least_filters, with_rules, with_variant,
                              without_variant)
from treelaws.equations import equations
from treelaws.errors import Mismatch, NameTaken, NoFilter, NoForm, NoKind, NoPrice, NoSheet, TooMany
from treelaws.forms import Form
from treelaws.sheets import is_sheet, values

RANDOM = random_sheets(60, 4, 131)
FOUR = ({"k": tuple((f"t{n}", ()) for n in range(4))}, {"k": ()}, {f"t{n}": () for n in range(4)})
TWELVE = ({f"k{n}": tuple((f"t{n}{m}", ()) for m in range(4)) for n in range(3)} | {"more": ()},
          {"k0": (), "k1": (), "k2": (), "more": ("n",)}, {f"t{n}{m}": () for n in range(3) for m in range(4)})


class VariantsTest(unittest.TestCase):
    def same(self, found, schema, numbers, rules):
        """In order, too."""
        self.assertIs(is_sheet(found), True)
        self.assertEqual(repr(found), repr((schema, numbers, rules)))

    def test_with_variant(self):
        self.same(with_variant(SUMS, "row", ("skip", ("row",)), ((), ((2, ((0, "sum"),)),))),
                  {"row": (("end", ()), ("more", ("row",)), ("skip", ("row",)))}, SUMS[1],
                  {**SUMS[2], "skip": ((), ((2, ((0, "sum"),)),))})
        schema, numbers, rules = MIXED
        self.same(with_variant(MIXED, "list", ("two", ("item", "item")), ((), ())),
                  {"list": schema["list"] + (("two", ("item", "item")),), "item": schema["item"]}, numbers,
                  {"nil": rules["nil"], "cons": rules["cons"], "two": ((), ()), "one": rules["one"], "nest": rules["nest"]})
        self.same(with_variant(({"a": ()}, {"a": ()}, {}), "a", ("t", ("a", "a", "a")), ()), {"a": (("t", ("a",) * 3),)}, {"a": ()}, {"t": ()})

    def test_without_and_again(self):
        source = random.Random(2)
        for sheet in list(SHEETS) + RANDOM:
            schema, numbers, rules = sheet
            for kind, variants in schema.items():
                for variant in variants:
                    less = without_variant(sheet, variant[0])
                    self.same(less, {**schema, kind: tuple(one for one in variants if one != variant)}, numbers,
                              {tag: rule for tag, rule in rules.items() if tag != variant[0]})
                    again = with_variant(less, kind, variant, rules[variant[0]])
                    self.assertEqual(again, ({**schema, kind: less[0][kind] + (variant,)}, numbers, rules))
                    self.assertIs(is_sheet(again), True)
                    new = random_rules(source, schema, numbers, (1, 2), 2)[variant[0]]
                    self.same(with_rules(sheet, variant[0], new), schema, numbers, {**rules, variant[0]: new})

    def test_what_comes_is_no_sheet(self):
        self.assertRaises(NoSheet, with_variant, FOUR, "k", ("t4", ()), ())
        self.assertRaises(NoSheet, with_variant, TWELVE, "more", ("t4", ()), ((),))
        self.assertIs(is_sheet(with_variant(without_variant(TWELVE, "t00"), "more", ("t4", ()), ((),))), True)
        for rules in ALIENS + ((), ((), ()), ((), (), (), ()), [(), (), ()], (((0, ()),), (), ()), (((1, ((0, "joins"),)),), (), ())):
            self.assertRaises(NoSheet, with_variant, TAGS, "tree", ("new", ()), rules)
            self.assertRaises(NoSheet, with_rules, TAGS, "leaf", rules)
        for children in ALIENS + ("tree", ("row",), ("tree",) * 4, ["tree"], (("tree",),)):
            self.assertRaises(NoSheet, with_variant, TAGS, "tree", ("new", children), ((), (), ()))

    def test_the_error_that_is_told_first(self):
        for thing in ALIENS + (TAGS[:2], list(TAGS)):
            self.assertRaises(NoSheet, with_variant, thing, None, None, None)
            self.assertRaises(NoSheet, without_variant, thing, None)
            self.assertRaises(NoSheet, with_rules, thing, None, None)
        for thing in ALIENS + ("leaf", ("tree",)):
            self.assertRaises(NoKind, with_variant, TAGS, thing, thing, thing)
        for thing in ALIENS + ("tree", ("leaf",)):
            self.assertRaises(NoKind, without_variant, TAGS, thing)
            self.assertRaises(NoKind, with_rules, TAGS, thing, thing)
        for thing in ALIENS + (("leaf",), ["leaf", ()], ("leaf", (), ()), (("leaf", ()),), "le"):
            self.assertRaises(NoSheet, with_variant, TAGS, "tree", thing, None)
        for thing in ALIENS:
            if thing != "" and not isinstance(thing, str):
                self.assertRaises(NoSheet, with_variant, TAGS, "tree", (thing, ()), None)
            self.assertRaises(NameTaken, with_variant, TAGS, "tree", ("leaf", thing), thing)
            self.assertRaises(NameTaken, with_variant, MIXED, "list", ("nest", thing), thing)

    def test_what_is_passed_stays_and_dicts_are_new(self):
        sheet = copy.deepcopy(MIXED)
        for _ in range(2):
            for found in (with_variant(sheet, "item", ("new", ()), ((),)), without_variant(sheet, "nest"),
                          with_rules(sheet, "one", ((),)), joined(sheet, sheet)[0]):
                for part in found:
                    part.clear()
            self.assertEqual(sheet, MIXED)


def clashing(source, schema, most):
    """Two sheets of one schema with many names in both."""
    pool = ("a", "a2", "a3", "a22", "b", "b2", "b10", "x9", "abcdefgh", "abcdefg", "abcdefg2")
    sheets = []
    for _ in range(2):
        numbers = {kind: tuple(source.sample(pool, source.randint(0, most))) for kind in schema}
        sheets.append((dict(schema), numbers, random_rules(source, schema, numbers, (1, -2, 3), 3)))
    return sheets


def new_names(first, second):
    """The new names of some numbers beside others, by point 22; or None if one is too long."""
    found = {}
    for name in second:
        found[name] = name
        if name in first:
            taken = {*first, *second, *found.values()}
            found[name] = next(f"{name}{n}" for n in itertools.count(2) if f"{name}{n}" not in taken)
    return found


class JoinedTest(unittest.TestCase):
    def test_against_all_values(self):
        source = random.Random(3)
        done = refused = 0
        for _ in range(150):
            schema = random_schema(source)
            one, other = clashing(source, schema, 3)
            named = {kind: new_names(one[1][kind], names) for kind, names in other[1].items()}
            both = {kind: names + tuple(named[kind].values()) for kind, names in one[1].items()}
            if any(len(name) > 8 for names in both.values() for name in names):
                self.assertRaises(NoSheet, joined, one, other)
                refused += 1
                continue
            found = joined(one, other)
            self.assertEqual(repr((found[0][0], found[0][1], found[1])), repr((schema, both, named)))
            self.assertIs(is_sheet(found[0]), True)
            for trees in all_trees(one, 25)[0].values():
                for tree in trees:
                    self.assertEqual(values(found[0], tree), values(one, tree) + values(other, tree))
            done += 1
        self.assertGreater(min(done, refused), 10)

    def test_names(self):
        def sheet(*names):
            return {"k": (("t", ()), ("u", ("k",)))}, {"k": names}, {"t": ((),) * len(names), "u": tuple(
                ((1, ((0, name),)),) for name in names)}
        for first, second, new in ((("a",), ("a",), "a2"), (("a", "a2"), ("a",), "a3"), (("a",), ("a", "a2"), "a3 a2"),
                                   (("a",), ("a2", "a"), "a2 a3"), (("a", "a2"), ("a", "a2"), "a3 a22"), (("a2", "a"), ("a2", "a"), "a22 a3"),
                                   (("a2", "a22"), ("a2",), "a23"), (("a", "a2"), ("a2", "a"), "a22 a3"), (("a",), ("b",), "b"),
                                   (("a", "b"), ("b", "a22", "a"), "b2 a22 a2"), (("abcdefg",), ("abcdefg",), "abcdefg2"), ((), (), ""),
                                   (("x", "x2", "x3", "x4", "x5"), ("x",), "x6")):
            found, named = joined(sheet(*first), sheet(*second))
            self.assertEqual(list(named["k"].items()), list(zip(second, new.split())))
            self.assertEqual(found[1]["k"], first + tuple(new.split()))
        for first, second in ((("abcdefgh",), ("abcdefgh",)), (tuple("abcdef"), ("g",)), (tuple("abcd"), tuple("abc")),
                              (("abcdefg", "abcdefg2", "a", "b"), ("abcdefg2",))):
            self.assertRaises(NoSheet, joined, sheet(*first), sheet(*second))
        self.assertEqual(len(joined(sheet(*"abc"), sheet(*"abc"))[0][1]["k"]), 6)

    def test_terms_are_sorted_anew(self):
        numbers = {"k": ("a", "b")}
        rules = {"t": ((), ()), "u": (((1, ((0, "a"),)), (2, ((0, "b"),))), ())}
        one = ({"k": (("t", ()), ("u", ("k",)))}, {"k": ("a",)}, {"t": ((),), "u": ((),)})
        other = (one[0], numbers, rules)
        self.assertEqual(joined(one, other)[0][2]["u"], ((), ((1, ((0, "a2"),)), (2, ((0, "b"),))), ()))
        one = (one[0], {"k": ("a", "c")}, {"t": ((), ()), "u": ((), ())})
        other = (one[0], {"k": ("a", "a1")}, {"t": ((), ()), "u": (((1, ((0, "a"),)), (2, ((0, "a1"),))), ())})
        self.assertEqual(joined(one, other)[0][2]["u"][2], ((2, ((0, "a1"),)), (1, ((0, "a2"),))))

    def test_wrong_inputs(self):
        for thing in ALIENS + (TAGS[:2],):
            self.assertRaises(NoSheet, joined, thing, thing)
            self.assertRaises(NoSheet, joined, TAGS, thing)
            self.assertRaises(NoSheet, joined, thing, MIXED)
        other = ({kind: MIXED[0][kind] for kind in ("item", "list")}, {kind: MIXED[1][kind] for kind in ("item", "list")},
                 {tag: MIXED[2][tag] for tag in ("one", "nest", "nil", "cons")})
        self.assertIs(is_sheet(other), True)
        self.assertRaises(Mismatch, joined, MIXED, other)
        self.assertRaises(Mismatch, joined, MIXED, TAGS)
        turned = ({"row": ROW["row"][::-1]}, SUMS[1], {tag: SUMS[2][tag] for tag in ("more", "end")})
        self.assertIs(is_sheet(turned), True)
        self.assertRaises(Mismatch, joined, SUMS, turned)


class ComparedTest(unittest.TestCase):
    def check(self, one, other, degree):
        found = compared_equations(one, other, degree)
        self.assertEqual(list(found), list(one[0]))
        before, after = equations(one, degree), equations(other, degree)
        for kind, (kept, lost, gained) in found.items():
            self.assertEqual(kept, before[kind] & after[kind])
            self.assertTrue(kept.within(before[kind]) and kept.within(after[kind]))
            self.assertIsInstance(lost, list)
            self.assertEqual([form for form, _ in lost], [form for form in before[kind].basis if form not in after[kind]])
            for form, tree in lost:
                self.assertEqual(tree, first_break(other, kind, form))
            self.assertEqual(gained | before[kind], before[kind] | after[kind])
            self.assertFalse(gained & before[kind] and len(gained) != len(before[kind] | after[kind]) - len(before[kind]))
            rests = [before[kind].rest(form)[1] for form in after[kind].basis]
            self.assertEqual(gained, type(gained)(one[1][kind], degree, rests))
        return found

    def test_against_the_spaces(self):
        source = random.Random(4)
        for sheet in list(SHEETS) + RANDOM:
            schema, numbers, rules = sheet
            for degree in (1, 2):
                new = random_rules(source, schema, numbers, (1, 2), 2)
                tag = source.choice(list(rules)) if rules else None
                for other in [sheet, (schema, numbers, new)] + ([with_rules(sheet, tag, new[tag]), without_variant(sheet, tag)] if tag else []):
                    try:
                        equations(sheet, degree), equations(other, degree)
                    except TooMany:
                        continue
                    self.check(sheet, other, degree)
                    self.check(other, sheet, degree)

    def test_in_plain_words(self):
        steps, sums = SUMS[2]["more"]
        kept, lost, gained = self.check(SUMS, with_rules(SUMS, "more", (steps, ())), 2)["row"]
        self.assertEqual([str(form) for form in kept.basis], [])
        self.assertEqual([(str(form), tree) for form, tree in lost], [("steps*steps - steps - 2*sum", ("more", ("more", ("end",))))])
        self.assertEqual([str(form) for form in gained.basis], ["steps*sum", "sum*sum", "sum"])
        kept, lost, gained = self.check(TAGS, without_variant(TAGS, "leaf"), 1)["tree"]
        self.assertEqual([str(form) for form in kept.basis], ["2*joins - tags + 1", "2*leaves - tags - 1"])
        self.assertEqual([lost, [str(form) for form in gained.basis]], [[], ["tags", "1"]])
        lost = self.check(without_variant(TAGS, "leaf"), TAGS, 1)["tree"][1]
        self.assertEqual([(str(form), tree) for form, tree in lost], [
            ("joins", ("join", ("leaf",), ("leaf",))), ("leaves", ("leaf",)), ("tags", ("leaf",)), ("1", ("leaf",))])

    def test_errors(self):
        numbers = tuple("abcdef")
        many = (TERNARY, {"tree": numbers}, {tag: ((),) * 6 for tag in ("leaf", "fork")})
        long = bare(CHAIN)
        for thing in ALIENS + (TAGS[:2],):
            self.assertRaises(NoSheet, compared_equations, thing, thing, 0)
            self.assertRaises(NoSheet, compared_equations, TAGS, thing, 1)
            self.assertRaises(NoForm, compared_equations, TAGS, thing, 0)
            limit_of(self, 4000, compared_equations, many, thing, 2)
        for thing in ALIENS + (0, 4):
            self.assertRaises(NoForm, compared_equations, TAGS, TAGS, thing)
        limit_of(self, 4000, compared_equations, TAGS, many, 2)
        self.assertRaises(Mismatch, compared_equations, TAGS, MIXED, 1)
        self.assertRaises(Mismatch, compared_equations, TAGS, (TAGS[0], {"tree": ("leaves", "tags", "joins")}, TAGS[2]), 1)
        self.assertRaises(Mismatch, compared_equations, long, TAGS, 1)
        limit_of(self, 200, compared_equations, long, long, 1)
        empty = ({kind: () for kind in CHAIN}, long[1], {})
        limit_of(self, 200, compared_equations, long, empty, 1)
        limit_of(self, 200, compared_equations, empty, long, 1)
        turned = {kind: () for kind in reversed(list(CHAIN))}
        self.assertRaises(Mismatch, compared_equations, long, (turned, turned, {}), 1)


def choices_of(many):
    return [some for size in range(many + 1) for some in itertools.combinations(range(many), size)]


class ChosenFiltersTest(unittest.TestCase):
    def cases(self):
        source = random.Random(6)
        for sheet in list(SHEETS) * 3 + RANDOM:
            filters = tuple(random_filter(source, sheet[0], 2, 8) for _ in range(source.randint(0, 4)))
            if len(filters) == 4 and source.random() < .3:
                filters += (everything(sheet[0]),)
            for kind, names in sheet[1].items():
                degree = source.randint(0, 3)
                form = Form([(source.choice((1, -1, 2)), product) for product in products(names, degree) if source.random() < .4])
                try:
                    least_filters(sheet, filters, kind, form)
                except TooMany:
                    continue
                yield sheet, filters, kind, form, tuple(source.choice((0, 1, 1, 2, 5, 10 ** 6)) for _ in filters)

    def breaks(self, sheet, filters, kind, form):
        """A dict from the choices to the first trees at which a claim does not hold."""
        found = search_under(sheet, filters, max(1, form.degree))[kind]
        broken = [tree for trees in found.values() for tree in trees if value_of(form.terms, value(sheet, tree))]
        broken = ordered(sheet[0], kind, broken)
        return {choice: next((tree for tree in broken if all(lets(filters[at], tree) for at in choice)), None)
                for choice in choices_of(len(filters))}

    def test_against_all_choices(self):
        held = 0
        for sheet, filters, kind, form, prices in self.cases():
            breaks = self.breaks(sheet, filters, kind, form)
            least = [choice for choice, tree in breaks.items() if tree is None
                     and not any(set(other) < set(choice) and breaks[other] is None for other in breaks)]
            self.assertEqual(least_filters(sheet, filters, kind, form), sorted(least, key=lambda choice: (len(choice), choice)))
            order = sorted(breaks, key=lambda choice: (sum(prices[at] for at in choice), len(choice), choice))
            first = next((place for place, choice in enumerate(order) if breaks[choice] is None), None)
            found = cheapest_filters(sheet, filters, kind, form, prices)
            if first is None:
                self.assertEqual(found, breaks[tuple(range(len(filters)))])
            else:
                choice = order[first]
                papers = tuple((other, breaks[other]) for other in order[:first])
                self.assertEqual(found, (choice, sum(prices[at] for at in choice), papers))
                held += first > 0
        self.assertGreater(held, 15)

    def test_at_all_small_trees(self):
        for sheet, filters, kind, form, prices in self.cases():
            trees = all_trees(sheet, 30)[0][kind]
            broken = [tree for tree in trees if value_of(form.terms, value(sheet, tree))]
            for choice in least_filters(sheet, filters, kind, form):
                self.assertFalse([tree for tree in broken if all(lets(filters[at], tree) for at in choice)])
            found = cheapest_filters(sheet, filters, kind, form, prices)
            if found and isinstance(found[0], tuple):
                for choice, tree in found[2]:
                    by = [one for one in broken if all(lets(filters[at], one) for at in choice)]
                    self.assertIn(tree, by[:1] or [tree])

    def test_in_plain_words(self):
        depth, leaves = Form.named("depth"), Form.named("leaves")
        claim = depth - leaves + 1
        filters = (everything(BINARY), COMB, COMB)
        self.assertEqual(least_filters(DEPTHS, filters, "tree", claim), [(1,), (2,)])
        broken = first_break(DEPTHS, "tree", claim)
        self.assertEqual(cheapest_filters(DEPTHS, filters, "tree", claim, (0, 7, 5)),
                         ((2,), 5, (((), broken), ((0,), broken))))
        self.assertEqual(cheapest_filters(DEPTHS, filters[:1], "tree", claim, (3,)), broken)
        self.assertEqual(least_filters(DEPTHS, filters[:1], "tree", claim), [])
        self.assertEqual(cheapest_filters(DEPTHS, (), "tree", claim, ()), broken)
        self.assertEqual(cheapest_filters(DEPTHS, filters, "tree", Form(()), (0, 0, 0)), ((), 0, ()))
        self.assertEqual(least_filters(DEPTHS, filters, "tree", leaves - leaves), [()])
        self.assertEqual(cheapest_filters(DEPTHS, (COMB, COMB), "tree", claim, (0, 0))[0], (0,))
        self.assertEqual(cheapest_filters(NUMBERLESS, (COMB,), "tree", Form.number(1), (1,)), ("leaf",))
        nothing = ({"a": ()}, ("a",))
        self.assertEqual(cheapest_filters(NUMBERLESS, (COMB, nothing), "tree", Form.number(1), (0, 1)),
                         ((1,), 1, (((), ("leaf",)), ((0,), ("leaf",)))))
        self.assertEqual(least_filters(EMPTY, (), "none", Form.number(1)), [()])
        two, three = counting(2), counting(3)
        self.assertEqual(least_filters(SUMS, (two, three), "row", Form.named("steps") - 5), [])

    def test_six_filters(self):
        five = (COMB,) * 5
        self.assertEqual(least_filters(DEPTHS, five, "tree", Form.number(0)), [()])
        self.assertEqual(cheapest_filters(DEPTHS, five, "tree", Form.number(0), (0,) * 5), ((), 0, ()))
        limit_of(self, 5, least_filters, DEPTHS, five + (COMB,), "none", None)
        limit_of(self, 5, cheapest_filters, DEPTHS, five + (COMB,), "none", None, None)
        self.assertRaises(NoFilter, least_filters, DEPTHS, five + (COMB, None), "none", None)

    def test_errors(self):
        form = Form.named("leaves")
        for call, more in ((least_filters, ()), (cheapest_filters, (None,))):
            for thing in ALIENS + (TAGS[:2],):
                self.assertRaises(NoSheet, call, thing, thing, thing, thing, *more)
                if thing != ():
                    self.assertRaises(NoFilter, call, TAGS, thing, thing, thing, *more)
                self.assertRaises(NoFilter, call, TAGS, (COMB, thing), thing, thing, *more)
                self.assertRaises(NoKind, call, TAGS, (COMB,), thing, thing, *more)
                self.assertRaises(NoForm, call, TAGS, (COMB,), "tree", thing, *more)
            self.assertRaises(NoFilter, call, TAGS, [COMB], "none", form, *more)
            for thing in (Form.named("depth"), form * form * form * form, form.terms):
                self.assertRaises(NoForm, call, TAGS, (), "tree", thing, *more)
        for thing in ALIENS + ((), (1,), (1, 2, 3), [1, 2], (1, -1), (1, 10 ** 6 + 1), (1, True), {0: 1, 1: 2}, ((1, 2), 3)):
            self.assertRaises(NoPrice, cheapest_filters, TAGS, (COMB, COMB), "tree", form, thing)
        self.assertEqual(cheapest_filters(TAGS, (COMB, COMB), "tree", form, (0, 10 ** 6)), ("leaf",))

    def test_limits(self):
        schema, filters = counters((4, 5), (4, 5), (1, 1))
        sheet, form = bare(schema), Form.number(1)
        limit_of(self, 40, least_filters, sheet, tuple(filters), "row0", form)
        self.assertRaises(NoPrice, cheapest_filters, sheet, tuple(filters), "row0", form, (1,))
        limit_of(self, 40, cheapest_filters, sheet, tuple(filters), "row0", form, (1, 1))
        schema, filters = counters((4, 5))
        schema["top"] = (("top", ("row0",) * 3),)
        limit_of(self, 4000, least_filters, bare(schema), tuple(filters), "row0", form)
        self.assertEqual(least_filters(bare(schema), tuple(filters[:1]), "row0", form), [])
        limit_of(self, 200, least_filters, bare(CHAIN), (), "k6", form)
        # The degree of the claim counts, at least 1.
        sheet = (TERNARY, {"tree": ("a", "b", "c")}, {tag: ((),) * 3 for tag in ("leaf", "fork")})
        claim = Form.named("a")
        states = {"one": (("leaf", ()),), "two": (("fork", ("one",) * 3),), "three": (("fork", ("two",) * 3),)}
        some = (states, ("one",))
        # Four situations of four products; with less, three of them.
        self.assertEqual(least_filters(sheet, (), "tree", claim * claim), [()])
        limit_of(self, 4000, least_filters, sheet, (some,), "tree", claim * claim)
        limit_of(self, 4000, least_filters, sheet, (some,), "tree", claim)
        less = ({"one": states["one"], "two": states["two"]}, ("one",))
        self.assertEqual(least_filters(sheet, (less,), "tree", claim), [()])
        limit_of(self, 4000, least_filters, sheet, (less,), "tree", claim * claim)
