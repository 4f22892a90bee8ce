import copy
import random
import unittest

from oracles import MIXED, NUMBERLESS, SHEETS, SUMS, TAGS, all_trees, products, random_sheets, value, value_of
from samples import ALIENS, CHAIN, ROW, comb, paths_of, size
from samples import row as row_tree
from test_filters import bare, limit_of
from treelaws.documents import Document
from treelaws.errors import NoForm, NoKind, NoMark, NoPath, NoSheet, NoTree, TooMany, TreeError
from treelaws.forms import Form
from treelaws.trees import is_tree

SWAP = (ROW, {"row": ("steps", "odd")}, {"end": ((), ()), "more": (((1, ()), (1, ((0, "steps"),))), ((1, ()), (-1, ((0, "odd"),))))})
RANDOM = [sheet for sheet in random_sheets(60, 2, 151) if sum(map(len, all_trees(sheet, 20)[0].values())) > 5]


def part_of(tree, path):
    for index in path:
        tree = tree[index + 1]
    return tree


def put(tree, path, part):
    if not path:
        return part
    return tree[:path[0] + 1] + (put(tree[path[0] + 1], path[1:], part),) + tree[path[0] + 2:]


def kind_at(schema, tree):
    return next(kind for kind, variants in schema.items() if tree[0] in dict(variants))


def after(schema, tree, deed):
    """The tree that a deed leads to, or the error by which it is refused."""
    known = set(paths_of(tree))
    for path in deed[1:2] if deed[0] == "put" else deed[1:]:
        if not isinstance(path, tuple) or any(type(index) is not int for index in path) or path not in known:
            return NoPath
    if deed[0] == "put":
        if not is_tree(schema, kind_at(schema, part_of(tree, deed[1])), deed[2]):
            return NoTree
        new = put(tree, deed[1], deed[2])
    else:
        one, other = part_of(tree, deed[1]), part_of(tree, deed[2])
        if kind_at(schema, one) != kind_at(schema, other):
            return NoTree
        if deed[1][:len(deed[2])] == deed[2] or deed[2][:len(deed[1])] == deed[1]:
            return NoPath
        new = put(put(tree, deed[1], other), deed[2], one)
    return TooMany if size(new) > 200 else new


class Model:
    """A plain list of deeds, all done anew for each question."""

    def __init__(self, sheet, tree):
        self.sheet, self.start, self.deeds, self.undone, self.watched = sheet, tree, [], [], []

    def tree(self, less=0):
        tree = self.start
        for deed in self.deeds[:len(self.deeds) - less]:
            tree = after(self.sheet[0], tree, deed)
        return tree

    def told(self, tree):
        return {path: (kind_at(self.sheet[0], part_of(tree, path)), value(self.sheet, part_of(tree, path))) for path in paths_of(tree)}

    def changed(self):
        if not self.deeds:
            return []
        before, now = self.told(self.tree(1)), self.told(self.tree())
        return [path for path in paths_of(self.tree()) if path in before and before[path] != now[path]]

    def failing(self, number):
        kind, form = self.watched[number]
        return [path for path, (one, told) in self.told(self.tree()).items() if one == kind and value_of(form.terms, told)]


class DocumentTest(unittest.TestCase):
    def check(self, document, model):
        tree = model.tree()
        self.assertEqual(document.tree, tree)
        self.assertEqual(document.deeds, len(model.deeds))
        self.assertEqual(len(document), size(tree))
        self.assertEqual(document.paths(), paths_of(tree))
        self.assertEqual(document.changed(), model.changed())
        for path in paths_of(tree):
            self.assertEqual(document.part(path), part_of(tree, path))
            told = document[path]
            self.assertEqual(list(told.items()), list(value(model.sheet, part_of(tree, path)).items()))
            self.assertIs(path in document, True)
            wrong = path + (len(part_of(tree, path)) - 1,)
            self.assertIs(wrong in document, False)
            self.assertRaises(NoPath, document.part, wrong)
        for number in range(len(model.watched)):
            self.assertEqual(document.failing(number), model.failing(number))

    def does(self, document, model, deed):
        """Does a deed at both, refused or not."""
        expected = after(model.sheet[0], model.tree(), deed)
        try:
            if deed[0] == "put":
                document[deed[1]] = deed[2]
            else:
                document.exchange(*deed[1:])
        except TreeError as error:
            self.assertIs(type(error), expected)
            return False
        self.assertNotIsInstance(expected, type)
        model.deeds.append(deed)
        model.undone.clear()
        return True

    def step(self, source, document, model, trees):
        schema, tree = model.sheet[0], model.tree()
        some = paths_of(tree)
        action = source.choice(("put", "put", "put", "exchange", "exchange", "undo", "undo", "redo", "redo", "watch"))
        if action == "put":
            path = source.choice(some) if source.random() < .9 else source.choice(ALIENS + ((9,), (0, 0, 0, 0, 0, 0, 0), (True,), [0]))
            right = isinstance(path, tuple) and path in some and source.random() < .8
            new = source.choice(trees[kind_at(schema, part_of(tree, path))] if right else sum(trees.values(), []) + list(ALIENS))
            return self.does(document, model, ("put", path, new))
        if action == "exchange":
            pairs = [(one, other) for one in some for other in some]
            same = [(one, other) for one, other in pairs if not isinstance(after(schema, tree, ("exchange", one, other)), type)]
            one, other = source.choice(same if same and source.random() < .8 else pairs + [(some[0], None), ((5,), 3), (some[-1], [0])])
            return self.does(document, model, ("exchange", one, other))
        if action == "watch":
            kind = source.choice(list(schema))
            form = Form([(source.choice((1, -1, 2)), product) for product in products(model.sheet[1][kind], 2) if source.random() < .5])
            self.assertEqual(document.watch(kind, form), len(model.watched))
            model.watched.append((kind, form))
            return False
        ahead, behind = (model.deeds, model.undone) if action == "undo" else (model.undone, model.deeds)
        call = document.undo if action == "undo" else document.redo
        if not ahead:
            self.assertRaises(NoMark, call)
            return False
        self.assertIsNone(call())
        behind.append(ahead.pop())
        return True

    def test_against_a_list_of_deeds(self):
        source = random.Random(2)
        done = 0
        for sheet in (list(SHEETS) + RANDOM) * 2:
            trees = all_trees(sheet, 20)[0]
            kinds = [kind for kind, some in trees.items() if some]
            kind = source.choice(kinds)
            tree = source.choice(trees[kind])
            document, model = Document(sheet, kind, tree), Model(sheet, tree)
            self.check(document, model)
            for _ in range(25):
                done += self.step(source, document, model, trees)
                self.check(document, model)
        self.assertGreater(done, 500)

    def test_undo_and_redo(self):
        document = Document(TAGS, "tree", ("leaf",))
        self.assertRaises(NoMark, document.undo)
        self.assertRaises(NoMark, document.redo)
        document[()] = ("join", ("leaf",), ("leaf",))
        document[(0,)] = ("join", ("leaf",), ("leaf",))
        document.undo()
        self.assertEqual((len(document), document.deeds, document.changed()), (3, 1, [()]))
        document.redo()
        self.assertRaises(NoMark, document.redo)
        self.assertEqual((len(document), document.deeds, document.changed()), (5, 2, [(), (0,)]))
        document.undo()
        document.undo()
        self.assertEqual(document.changed(), [])
        document[()] = ("leaf",)
        self.assertRaises(NoMark, document.redo)
        self.assertEqual((document.deeds, document.changed()), (1, []))
        document.undo()
        document.redo()
        self.assertEqual(document.tree, ("leaf",))

    def test_what_is_refused_takes_nothing_from_redo(self):
        document = Document(TAGS, "tree", ("join", ("leaf",), ("leaf",)))
        document[(0,)] = ("join", ("leaf",), ("leaf",))
        document.undo()
        for path, tree, error in (((2,), ("leaf",), NoPath), ((0,), ("end",), NoTree), ((0,), comb(199), TooMany)):
            with self.assertRaises(error):
                document[path] = tree
        self.assertRaises(NoPath, document.exchange, (0,), (0,))
        document.watch("tree", Form.named("tags"))
        document.redo()
        self.assertEqual((len(document), document.deeds), (5, 1))

    def test_changed(self):
        document = Document(MIXED, "list", ("cons", ("one",), ("nil",)))
        document[(0,)] = ("nest", ("nil",))
        self.assertEqual(document.changed(), [])
        document[(0,)] = ("nest", ("cons", ("one",), ("nil",)))
        self.assertEqual(document.changed(), [(), (0,), (0, 0)])
        document[()] = ("nil",)
        self.assertEqual(document.changed(), [()])
        # Parts of another kind, though of the same values.
        schema = {"a": (("x", ("b",)), ("y", ("c",))), "b": (("u", ()),), "c": (("v", ()),)}
        document = Document(bare(schema), "a", ("x", ("u",)))
        document[()] = ("y", ("v",))
        self.assertEqual(document.changed(), [(0,)])
        document[()] = ("y", ("v",))
        self.assertEqual((document.changed(), document.deeds), ([], 2))

    def test_two_hundred_tags(self):
        document = Document(TAGS, "tree", comb(199))
        self.assertEqual(len(document), 199)
        with self.assertRaises(TooMany) as caught:
            document[(1,)] = ("join", ("leaf",), ("leaf",))
        self.assertEqual(caught.exception.limit, 200)
        document = Document(SUMS, "row", row_tree(200))
        self.assertEqual(document[()], {"steps": 199, "sum": 199 * 198 // 2})
        with self.assertRaises(TooMany):
            document[(0,)] = row_tree(200)
        document[(0,)] = row_tree(199)
        self.assertEqual((document.changed(), document.deeds), ([], 1))
        limit_of(self, 200, Document, SUMS, "row", row_tree(201))
        with self.assertRaises(TooMany):
            document[()] = row_tree(201)
        document[(0,) * 199] = ("end",)
        with self.assertRaises(TooMany):
            document[(0,) * 199] = ("more", ("end",))

    def test_watched_forms(self):
        document = Document(SWAP, "row", row_tree(4))
        steps, odd = Form.named("steps"), Form.named("odd")
        self.assertEqual([document.watch("row", form) for form in (odd - 1, steps * odd, Form(()), Form.number(2))], [0, 1, 2, 3])
        self.assertEqual([document.failing(number) for number in range(4)],
                         [[(0,), (0, 0, 0)], [(), (0, 0)], [], [(), (0,), (0, 0), (0, 0, 0)]])
        power = steps
        for _ in range(11):
            power = power * odd
        self.assertEqual((document.watch("row", power), document.failing(4)), (4, [(), (0, 0)]))
        for thing in ALIENS + (5, -1, "0", (0,)):
            self.assertRaises(NoMark, document.failing, thing)
        self.assertRaises(NoMark, Document(SWAP, "row", ("end",)).failing, 0)
        document.failing(0).clear()
        self.assertEqual(document.failing(0), [(0,), (0, 0, 0)])

    def test_errors(self):
        for thing in ALIENS + (TAGS[:2],):
            self.assertRaises(NoSheet, Document, thing, thing, thing)
            self.assertRaises(NoKind, Document, TAGS, thing, thing)
            self.assertRaises(NoTree, Document, TAGS, "tree", thing)
        self.assertRaises(NoTree, Document, MIXED, "item", ("nil",))
        limit_of(self, 200, Document, bare(CHAIN), "k1", self.whole(1))
        document = Document(TAGS, "tree", ("join", ("leaf",), ("leaf",)))
        for thing in ALIENS + ([], (0, 0), (2,), (-1,), (True,), (None,), "0", ((0,),)):
            self.assertRaises(NoPath, lambda: document.part(thing) if thing != () else document.part((5,)))
            if thing != ():
                self.assertIs(thing in document, False)
                with self.assertRaises(NoPath):
                    document[thing]
                with self.assertRaises(NoPath):
                    document[thing] = thing
                self.assertRaises(NoPath, document.exchange, thing, (0,))
                self.assertRaises(NoPath, document.exchange, (0,), thing)
        for thing in ALIENS + (("nil",), ["leaf"]):
            with self.assertRaises(NoTree):
                document[(0,)] = thing
            self.assertRaises(NoKind, document.watch, thing, thing)
            self.assertRaises(NoForm, document.watch, "tree", thing)
        self.assertRaises(NoForm, document.watch, "tree", Form.named("depth"))
        self.assertEqual((document.deeds, document.tree), (0, ("join", ("leaf",), ("leaf",))))
        mixed = Document(MIXED, "list", ("cons", ("nest", ("nil",)), ("nil",)))
        self.assertRaises(NoTree, mixed.exchange, (0,), (1,))
        self.assertRaises(NoTree, mixed.exchange, (0,), (0, 0))
        self.assertRaises(NoPath, mixed.exchange, (), (1,))
        self.assertRaises(NoPath, mixed.exchange, (0, 0), ())
        self.assertRaises(NoPath, mixed.exchange, (1,), (1,))
        self.assertRaises(NoPath, mixed.exchange, (5,), (0,))
        mixed.exchange((0, 0), (1,))
        self.assertEqual((mixed.deeds, mixed.changed()), (1, []))
        with self.assertRaises(TypeError):
            list(mixed)

    def whole(self, level):
        return (f"t{level}",) + ((self.whole(level + 1),) * 3 if level < 6 else ())

    def test_properties_cannot_be_set(self):
        document = Document(NUMBERLESS, "tree", ("leaf",))
        with self.assertRaises(AttributeError):
            document.tree = ("leaf",)
        with self.assertRaises(AttributeError):
            document.deeds = 1
        self.assertEqual(document[()], {})

    def test_what_is_passed_or_returned_can_be_changed(self):
        sheet = copy.deepcopy(MIXED)
        document = Document(sheet, "list", ("cons", ("one",), ("nil",)))
        form = Form.named("len")
        document.watch("list", form)
        for part in sheet:
            part.clear()
        form.terms = ()
        document[()].clear()
        document.paths().clear()
        document.failing(0).clear()
        document[(1,)] = ("cons", ("one",), ("nil",))
        document.changed().clear()
        self.assertEqual((document[()], document.changed(), document.failing(0)), ({"len": 2, "sum": 2}, [(), (1,)], [(), (1,)]))
        self.assertEqual(len(document.paths()), 5)
