import copy
import random
import unittest

from oracles import MIXED, SHEETS, SUMS, TAGS
from oracles import all_trees, products, random_rule, random_sheets, search, value, value_of
from samples import ALIENS, CHAIN, TERNARY, comb, paths_of, size
from samples import row as row_tree
from test_documents import after, kind_at, part_of
from test_filters import bare, limit_of
from treelaws.changes import with_rules, with_variant, without_variant
from treelaws.errors import (Mismatch, NameTaken, NoForm, NoKind, NoMark, NoName, NoNumber, NoPath, NoSheet, NoTree, TooMany,
                             TreeError)
from treelaws.forms import Form
from treelaws.ledger import Ledger
from treelaws.names import is_name
from treelaws.trees import is_tree

RANDOM = [sheet for sheet in random_sheets(80, 3, 161) if sum(map(len, all_trees(sheet, 20)[0].values())) > 8][:12]
CHANGES = {"add": with_variant, "cut": without_variant, "rules": with_rules}


class Model:
    """A plain list of deeds; whatever is asked is worked out from all of them."""

    def __init__(self, sheet):
        self.start, self.deeds = sheet, []

    def sheet(self):
        sheet = self.start
        for deed in self.deeds:
            if deed[0] in CHANGES:
                sheet = CHANGES[deed[0]](sheet, *deed[1:])
        return sheet

    def kept(self):
        found = {}
        for deed in self.deeds:
            if deed[0] == "keep":
                found[deed[1]] = (deed[2], deed[3])
            elif deed[0] == "forget":
                del found[deed[1]]
        return found

    def verdicts(self):
        sheet = self.sheet()
        found = {}
        for name, (kind, terms) in self.kept().items():
            degree = max([1] + [len(product) for _, product in terms])
            found[name] = next((tree for tree in search(sheet, degree)[kind] if value_of(terms, value(sheet, tree))), None)
        return found

    def documents(self):
        found = {}
        for place, deed in enumerate(self.deeds):
            if deed[0] == "put":
                found[deed[1]] = deed[3]
            elif deed[0] == "drop":
                del found[deed[1]]
            elif deed[0] in ("replace", "exchange"):
                schema = Model.behind(self, place).sheet()[0]
                found[deed[1]] = after(schema, found[deed[1]], ("put" if deed[0] == "replace" else "exchange",) + deed[2:])
        return found

    def behind(self, number):
        other = Model(self.start)
        other.deeds = self.deeds[:number]
        return other

    def stored(self, name, path):
        told = dict(value(self.sheet(), part_of(self.documents()[name], path)))
        for deed in reversed(self.deeds):
            if deed[0] in CHANGES or deed[0] in ("put", "replace", "exchange") and deed[1] == name:
                break
            if deed[:3] == ("bend", name, path):
                told[deed[3]] += deed[4]
        return told

    def alarms(self, name):
        sheet, tree, verdicts = self.sheet(), self.documents()[name], self.verdicts()
        found = []
        for path in paths_of(tree):
            part = part_of(tree, path)
            told = self.stored(name, path)
            if told != value(sheet, part):
                found += [(path, one) for one, (kind, terms) in self.kept().items()
                          if kind == kind_at(sheet[0], part) and verdicts[one] is None and value_of(terms, told)]
        return sorted(found)

    def turned(self, before):
        now = self.verdicts()
        return sorted(name for name in now if name in before and before[name] != now[name])


def does(ledger, deed):
    """Does a deed as it is noted."""
    calls = {"keep": ledger.keep, "forget": ledger.forget, "add": ledger.add_variant, "cut": ledger.drop_variant,
             "rules": ledger.set_rules, "put": ledger.put, "drop": ledger.drop, "replace": ledger.replace,
             "exchange": ledger.exchange, "bend": ledger.bend}
    arguments = list(deed[1:])
    if deed[0] == "keep" and isinstance(arguments[2], tuple):
        arguments[2] = Form(arguments[2])
    return calls[deed[0]](*arguments)


def refusal(model, deed):
    """The error by which a deed is refused, or None: what is told first comes first."""
    sheet = model.sheet()
    kinds, words = sheet[0], deed[1:]
    if deed[0] in CHANGES:
        return refused_change(model, deed)
    held = model.kept() if deed[0] in ("keep", "forget") else model.documents()
    name = words[0]
    if deed[0] in ("keep", "put"):
        if not is_name(name):
            return NoName
        if name in held:
            return NameTaken
        if len(held) >= (8 if deed[0] == "keep" else 4):
            return TooMany
        if not isinstance(words[1], str) or words[1] not in kinds:
            return NoKind
        if deed[0] == "put":
            return None if is_tree(kinds, words[1], words[2]) and size(words[2]) <= 200 else NoTree
        if not isinstance(words[2], tuple):
            return NoForm
        names = {name for _, product in words[2] for name in product}
        return None if names <= set(sheet[1][words[1]]) and all(len(product) < 4 for _, product in words[2]) else NoForm
    if not is_name(name) or name not in held:
        return NoName
    if deed[0] in ("forget", "drop"):
        return None
    if deed[0] in ("replace", "exchange"):
        new = after(kinds, held[name], ("put" if deed[0] == "replace" else "exchange",) + words[1:])
        return new if isinstance(new, type) else None
    if words[1] not in paths_of(held[name]) or not isinstance(words[1], tuple):
        return NoPath
    numbers = sheet[1][kind_at(kinds, part_of(held[name], words[1]))]
    return None if words[2] in numbers and type(words[3]) is int else NoNumber


def refused_change(model, deed):
    try:
        sheet = CHANGES[deed[0]](model.sheet(), *deed[1:])
    except TreeError as error:
        return type(error)
    kinds = {}
    for one in model.deeds:
        if one[0] == "put":
            kinds[one[1]] = one[2]
    if not all(is_tree(sheet[0], kinds[name], tree) for name, tree in model.documents().items()):
        return Mismatch
    return None


class LedgerTest(unittest.TestCase):
    def check(self, ledger, model):
        self.assertEqual(repr(ledger.sheet_now()), repr(model.sheet()))
        self.assertEqual([(name, kind, form.terms) for name, (kind, form) in ledger.kept().items()],
                         [(name, kind, terms) for name, (kind, terms) in model.kept().items()])
        self.assertEqual(list(ledger.verdicts().items()), list(model.verdicts().items()))
        self.assertEqual(list(ledger.documents().items()), list(model.documents().items()))
        for name, tree in model.documents().items():
            for path in paths_of(tree)[:12]:
                self.assertEqual(list(ledger.stored(name, path).items()), list(model.stored(name, path).items()))
            self.assertEqual(ledger.alarms(name), model.alarms(name))
        self.assertEqual((ledger.notes(), ledger.mark()), (model.deeds, len(model.deeds)))

    def random_deed(self, source, model, trees):
        sheet, kept, documents = model.sheet(), model.kept(), model.documents()
        schema, numbers = sheet[0], sheet[1]
        kind = source.choice(list(schema))
        tags = [tag for variants in schema.values() for tag, _ in variants] + ["none"]
        word = source.choice("keep keep forget add cut rules rules put put drop replace replace exchange bend bend bend".split())
        held = source.choice(list(documents) + ["no"]) if documents else "no"
        if word == "keep":
            terms = Form([(source.choice((1, -1, 2)), product) for product in products(numbers[kind], source.choice((0, 1, 1, 2)))
                          if source.random() < .5]).terms
            return "keep", source.choice(("f", "g", "h", "bad name")), kind, terms
        if word == "forget":
            return "forget", source.choice(list(kept) + ["f", "none"])
        if word == "add":
            children = tuple(source.choice(list(schema)) for _ in range(source.randint(0, 2)))
            rules = tuple(random_rule(source, [numbers[child] for child in children], (1, 2, -1), 2) for _ in numbers[kind])
            return "add", kind, (source.choice(("new1", "new2", tags[0])), children), rules[source.randint(-6, 1) > 0:]
        if word in ("cut", "rules"):
            tag = source.choice(tags)
            if word == "cut":
                return "cut", tag
            children = next((some for variants in schema.values() for one, some in variants if one == tag), ())
            own = next((numbers[one] for one, variants in schema.items() if tag in dict(variants)), ())
            new = tuple(random_rule(source, [numbers[child] for child in children], (1, 2, -1), 2) for _ in own)
            return "rules", tag, source.choice((new, new, sheet[2].get(tag, ()), None))
        if word == "put":
            return "put", source.choice(("a", "b", "f", "Bad")), kind, source.choice(trees[kind] + [("none",)])
        if word == "drop":
            return "drop", held
        paths = paths_of(documents[held]) if held in documents else [()]
        if word == "replace":
            path = source.choice(paths)
            own = kind_at(schema, part_of(documents[held], path)) if held in documents else kind
            return "replace", held, source.choice((path, path, path, (7,))), source.choice(trees[own] + [("none",)])
        if word == "exchange":
            return "exchange", held, source.choice(paths), source.choice(paths)
        path = source.choice(paths)
        own = numbers[kind_at(schema, part_of(documents[held], path))] if held in documents else ()
        return "bend", held, path, source.choice(own + ("none",)) if source.random() < .9 else None, source.choice((1, -1, 2, 0, 1, "1"))

    def test_against_a_list_of_deeds(self):
        source = random.Random(3)
        words = {}
        for sheet in list(SHEETS) + RANDOM:
            trees = {kind: some[:6] for kind, some in all_trees(sheet, 12)[0].items()}
            trees = {kind: some + [("none",)] * (not some) for kind, some in trees.items()}
            ledger, model = Ledger(sheet), Model(sheet)
            for _ in range(30):
                if source.random() < .06:
                    self.goes_back(source, ledger, model)
                deed = self.random_deed(source, model, trees)
                error = refusal(model, deed)
                words.setdefault((deed[0], error is None), []).append(deed)
                if error is not None:
                    with self.assertRaises(TreeError) as caught:
                        does(ledger, deed)
                    self.assertIs(type(caught.exception), error, deed)
                else:
                    before = model.verdicts()
                    names = does(ledger, deed)
                    model.deeds.append(deed)
                    self.assertEqual(names, model.turned(before))
                self.check(ledger, model)
            self.again(ledger)
        self.assertEqual(len(words), 20)

    def goes_back(self, source, ledger, model):
        number = source.randint(0, len(model.deeds))
        before = model.verdicts()
        model.deeds = model.deeds[:number]
        self.assertEqual(ledger.back(number), model.turned(before))
        self.check(ledger, model)

    def again(self, ledger):
        """A ledger to which its own notes are done again is the same."""
        first = copy.deepcopy(ledger)
        first.back(0)
        again = Ledger(first.sheet_now())
        for deed in ledger.notes():
            does(again, deed)
        model = Model(first.sheet_now())
        model.deeds = ledger.notes()
        self.check(again, model)
        self.assertEqual(again.notes(), ledger.notes())

    def test_in_plain_words(self):
        steps, sums = Form.named("steps"), Form.named("sum")
        ledger = Ledger(SUMS)
        self.assertEqual(ledger.keep("square", "row", steps * steps - steps - 2 * sums), [])
        self.assertEqual(ledger.keep("nought", "row", steps), [])
        self.assertEqual(ledger.verdicts(), {"square": None, "nought": ("more", ("end",))})
        self.assertEqual(ledger.set_rules("more", (((1, ((0, "steps"),)),), ((1, ()),))), ["nought", "square"])
        self.assertEqual(ledger.verdicts(), {"square": ("more", ("end",)), "nought": None})
        self.assertEqual(ledger.set_rules("more", SUMS[2]["more"]), ["nought", "square"])
        self.assertEqual(ledger.set_rules("more", SUMS[2]["more"]), [])
        self.assertEqual(ledger.back(3), ["nought", "square"])
        self.assertEqual(ledger.forget("square"), [])
        self.assertEqual(ledger.back(2), ["nought"])
        self.assertEqual(ledger.notes()[0], ("keep", "square", "row", ((1, ("steps", "steps")), (-1, ("steps",)), (-2, ("sum",)))))
        # Another form under the name of one that is kept now.
        ledger.forget("nought")
        ledger.keep("nought", "row", Form(()))
        self.assertEqual((ledger.back(2), list(ledger.kept())), (["nought"], ["square", "nought"]))
        ledger.forget("square")
        ledger.keep("square", "row", Form(()))
        self.assertEqual(list(ledger.kept()), ["nought", "square"])

    def test_stored_numbers(self):
        ledger = Ledger(SUMS)
        steps, sums = Form.named("steps"), Form.named("sum")
        ledger.keep("b", "row", steps * steps - steps - 2 * sums)
        ledger.keep("a", "row", steps * steps - steps - 2 * sums)
        ledger.keep("c", "row", steps)
        ledger.put("one", "row", row_tree(3))
        ledger.put("b", "row", row_tree(3))
        self.assertEqual([ledger.alarms(name) for name in ("one", "b")], [[], []])
        ledger.bend("one", (0,), "steps", 5)
        ledger.bend("one", (), "sum", -1)
        self.assertEqual(ledger.alarms("one"), [((), "a"), ((), "b"), ((0,), "a"), ((0,), "b")])
        self.assertEqual((ledger.stored("one", (0,)), ledger.stored("one", ()), ledger.stored("b", (0,))),
                         ({"steps": 6, "sum": 0}, {"steps": 2, "sum": 0}, {"steps": 1, "sum": 0}))
        ledger.bend("one", (), "sum", 1)
        self.assertEqual(ledger.alarms("one"), [((0,), "a"), ((0,), "b")])
        ledger.bend("one", (0,), "sum", 15)
        self.assertEqual((ledger.alarms("one"), ledger.stored("one", (0,))), ([], {"steps": 6, "sum": 15}))
        ledger.bend("b", (0, 0), "steps", 2)
        ledger.replace("one", (0, 0), ("end",))
        self.assertEqual((ledger.stored("one", (0,)), ledger.stored("b", (0, 0))), ({"steps": 1, "sum": 0}, {"steps": 2, "sum": 0}))
        ledger.set_rules("end", SUMS[2]["end"])
        self.assertEqual(ledger.stored("b", (0, 0)), {"steps": 0, "sum": 0})
        ledger.back(ledger.mark() - 1)
        self.assertEqual(ledger.stored("b", (0, 0)), {"steps": 2, "sum": 0})
        ledger.drop("b")
        ledger.put("b", "row", row_tree(3))
        self.assertEqual(ledger.stored("b", (0, 0)), {"steps": 0, "sum": 0})
        mixed = Ledger(TAGS)
        mixed.put("t", "tree", ("join", ("leaf",), ("leaf",)))
        mixed.bend("t", (1,), "tags", 4)
        self.assertRaises(NoPath, mixed.exchange, "t", (1,), (1,))
        self.assertEqual(mixed.stored("t", (1,))["tags"], 5)
        mixed.exchange("t", (1,), (0,))
        self.assertEqual([mixed.stored("t", path)["tags"] for path in ((0,), (1,))], [1, 1])

    def test_alarms_of_forms_of_the_same_kind_alone(self):
        # n is 0 at each tree of b, but not at those of a.
        sheet = ({"a": (("one", ("b",)),), "b": (("two", ()),)}, {"a": ("n",), "b": ("n",)}, {"one": (((1, ()),),), "two": ((),)})
        ledger = Ledger(sheet)
        ledger.keep("x", "b", Form.named("n"))
        ledger.keep("y", "a", Form.named("n") - 1)
        ledger.put("t", "a", ("one", ("two",)))
        ledger.bend("t", (), "n", 4)
        self.assertEqual(ledger.alarms("t"), [((), "y")])
        ledger.bend("t", (0,), "n", 1)
        self.assertEqual(ledger.alarms("t"), [((), "y"), ((0,), "x")])

    def test_limits(self):
        ledger = Ledger(TAGS)
        for n in range(8):
            ledger.keep(f"f{n}", "tree", Form.number(n))
        limit_of(self, 8, ledger.keep, "more", "none", None)
        self.assertRaises(NameTaken, ledger.keep, "f0", "none", None)
        self.assertRaises(NoName, ledger.keep, "F", "none", None)
        ledger.forget("f3")
        self.assertRaises(NoKind, ledger.keep, "more", "none", None)
        ledger.keep("more", "tree", Form.number(1))
        self.assertEqual(list(ledger.kept()), ["f0", "f1", "f2", "f4", "f5", "f6", "f7", "more"])
        for n in range(4):
            ledger.put(f"f{n}", "tree", ("leaf",))
        limit_of(self, 4, ledger.put, "more", "none", None)
        self.assertRaises(NameTaken, ledger.put, "f0", "none", None)
        ledger.drop("f0")
        self.assertRaises(NoKind, ledger.put, "more", "none", None)
        limit_of(self, 200, ledger.put, "more", "tree", comb(201))
        ledger.put("f0", "tree", comb(199))
        self.assertEqual(list(ledger.documents()), ["f1", "f2", "f3", "f0"])
        self.assertRaises(NoTree, ledger.replace, "f0", (1,), ("end",))
        limit_of(self, 200, ledger.replace, "f0", (1,), ("join", ("leaf",), ("leaf",)))
        limit_of(self, 200, ledger.replace, "f0", (), comb(201))
        self.assertEqual(ledger.mark(), 16)

    def test_refused_sheets(self):
        sixes = (TERNARY, {"tree": tuple("abcdef")}, {tag: ((),) * 6 for tag in ("leaf", "fork")})
        ledger = Ledger(sixes)
        a = Form.named("a")
        ledger.keep("line", "tree", a)
        limit_of(self, 4000, ledger.keep, "square", "tree", a * a)
        self.assertRaises(NoForm, ledger.keep, "four", "tree", a * a * a * a)
        self.assertEqual(ledger.mark(), 1)
        small = ({"k": (("t", ()),)}, {"k": tuple("abcdef")}, {"t": ((),) * 6})
        ledger = Ledger(small)
        ledger.keep("square", "k", a * a)
        ledger.put("one", "k", ("t",))
        limit_of(self, 4000, ledger.add_variant, "k", ("f", ("k", "k", "k")), ((),) * 6)
        self.assertRaises(Mismatch, ledger.drop_variant, "t")
        self.assertRaises(NoKind, ledger.drop_variant, "f")
        self.assertRaises(NameTaken, ledger.add_variant, "k", ("t", None), None)
        self.assertRaises(NoSheet, ledger.add_variant, "k", ("f", ("k",) * 3), ())
        self.assertRaises(NoSheet, ledger.set_rules, "t", ((),))
        ledger.forget("square")
        self.assertEqual(ledger.add_variant("k", ("f", ("k", "k", "k")), ((),) * 6), [])
        # A first tree with more than 200 tags is refused only where a form is kept.
        schema, numbers, rules = bare(CHAIN)
        less = {**schema, "k1": ()}
        ledger = Ledger((less, numbers, {tag: () for tag in list(rules)[1:]}))
        ledger.add_variant("k1", CHAIN["k1"][0], ())
        ledger.back(0)
        ledger.keep("one", "k6", Form.number(1))
        limit_of(self, 200, ledger.add_variant, "k1", CHAIN["k1"][0], ())
        self.assertEqual((ledger.mark(), ledger.verdicts()), (1, {"one": ("t6",)}))

    def test_the_first_of_the_kept_forms_is_refused_first(self):
        schema = {**CHAIN, "k1": ()}
        numbers = {kind: () for kind in CHAIN} | {"k6": tuple("abcdef")}
        rules = {f"t{n}": () for n in range(2, 6)} | {"t6": ((),) * 6}
        a = Form.named("a")
        for forms, limit in (((a, a * a), 200), ((a * a, a), 4000)):
            ledger = Ledger(({**schema, "k5": ()}, numbers, {tag: rule for tag, rule in rules.items() if tag != "t5"}))
            for place, form in enumerate(forms):
                ledger.keep(f"f{place}", "k6", form)
            ledger.add_variant("k1", CHAIN["k1"][0], ())
            # Of degree 1 only the first tree of k1 is too large, of degree 2 there are too many products, too.
            limit_of(self, limit, ledger.add_variant, "k5", ("t5", ("k6", "k6", "k6")), ())

    def test_need_tree(self):
        ledger = Ledger(MIXED)
        for tree in (("nil",), ("one",), ("nest", ("nil",))):
            self.assertIsNone(ledger.need_tree(tree))
        for thing in ALIENS + (("leaf",), ("nest", ("one",)), ("nil", ())):
            self.assertRaises(NoTree, ledger.need_tree, thing)

    def test_wrong_inputs(self):
        for thing in ALIENS + (TAGS[:2],):
            self.assertRaises(NoSheet, Ledger, thing)
        ledger = Ledger(TAGS)
        ledger.put("t", "tree", ("join", ("leaf",), ("leaf",)))
        for thing in ALIENS + ("none", ("t",), ["t"]):
            for call, many in ((ledger.forget, 0), (ledger.drop, 0), (ledger.replace, 2), (ledger.exchange, 2), (ledger.bend, 3),
                               (ledger.stored, 1), (ledger.alarms, 0)):
                self.assertRaises(NoName, call, thing, *[thing] * many)
            for call in (ledger.keep, ledger.put):
                self.assertRaises(NoName if thing != "none" else NoKind, call, thing, thing, thing)
                self.assertRaises(NoKind, call, "new", thing, thing)
            self.assertRaises(NoForm, ledger.keep, "new", "tree", thing)
            self.assertRaises(NoTree, ledger.put, "new", "tree", thing)
            if thing != ():
                self.assertRaises(NoPath, ledger.replace, "t", thing, thing)
                self.assertRaises(NoPath, ledger.exchange, "t", thing, thing)
                self.assertRaises(NoPath, ledger.exchange, "t", (0,), thing)
                self.assertRaises(NoPath, ledger.bend, "t", thing, thing, thing)
                self.assertRaises(NoPath, ledger.stored, "t", thing)
            self.assertRaises(NoTree, ledger.replace, "t", (), thing)
            self.assertRaises(NoNumber, ledger.bend, "t", (), thing, 1)
            if type(thing) is not int:
                self.assertRaises(NoNumber, ledger.bend, "t", (), "tags", thing)
                self.assertRaises(NoMark, ledger.back, thing)
            self.assertRaises(NoKind, ledger.add_variant, thing, thing, thing)
            self.assertRaises(NoSheet, ledger.add_variant, "tree", thing, thing)
            self.assertRaises(NoKind, ledger.drop_variant, thing)
            self.assertRaises(NoKind, ledger.set_rules, thing, thing)
            self.assertRaises(NoSheet, ledger.set_rules, "leaf", thing)
        for thing in (-1, 2, True, None, "0"):
            self.assertRaises(NoMark, ledger.back, thing)
        self.assertEqual((ledger.mark(), ledger.back(1), ledger.back(0), ledger.documents()), (1, [], [], {}))

    def test_what_is_passed_or_returned_can_be_changed(self):
        sheet = copy.deepcopy(SUMS)
        ledger = Ledger(sheet)
        form = Form.named("steps") - Form.named("steps") + 0 * Form.named("sum")
        ledger.keep("one", "row", form)
        ledger.put("doc", "row", row_tree(2))
        ledger.bend("doc", (), "steps", 3)
        form.terms = ((1, ()),)
        for part in sheet:
            part.clear()
        for part in ledger.sheet_now():
            part.clear()
        ledger.kept()["one"][1].terms = ((3, ()),)
        for found in (ledger.kept(), ledger.verdicts(), ledger.documents(), ledger.stored("doc", ()), ledger.alarms("doc"),
                      ledger.notes(), ledger.keep("two", "row", form * 0)):
            found.clear()
        self.assertEqual(ledger.sheet_now(), SUMS)
        self.assertEqual((ledger.kept()["one"][1].terms, ledger.verdicts()["one"], len(ledger.documents())), ((), None, 1))
        self.assertEqual((ledger.stored("doc", ()), ledger.mark(), len(ledger.notes())), ({"steps": 4, "sum": 0}, 4, 4))
