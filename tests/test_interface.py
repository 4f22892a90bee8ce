import ast
import importlib
import inspect
import pathlib
import unittest

ROOT = pathlib.Path(__file__).resolve().parent.parent

# file: its names, each with its parameters (None for a class that is made with a message)
LISTED = {
    "errors": {name: None for name in (
        "TreeError NoSchema NoSheet NoTree NoForm NoSpace NoFilter NoModulus Mismatch NoKind NoNumber NoPath NoPrice "
        "NameTaken NoName NoMark InvalidCommand").split()} | {
        "SyntaxProblem": ["line", "column"], "TooMany": ["limit"]},
    "names": {"is_name": ["thing"]},
    "schemas": {
        "is_schema": ["thing"], "tags_of": ["schema"], "kind_of": ["schema", "tag"], "children_of": ["schema", "tag"],
        "empty_kinds": ["schema"], "kinds_within": ["schema", "kind"]},
    "trees": {
        "is_tree": ["schema", "kind", "thing"], "size_of": ["tree"], "paths": ["tree"], "part_at": ["tree", "path"],
        "put_at": ["tree", "path", "part"], "in_order": ["schema", "some"], "how_many": ["schema", "kind", "size"],
        "trees": ["schema", "kind", "size"], "least_tree": ["schema", "kind"]},
    "sheets": {
        "is_sheet": ["thing"], "values": ["sheet", "tree"], "named_values": ["sheet", "tree"], "all_values": ["sheet", "tree"],
        "renamed": ["sheet", "names"]},
    "forms": {"Form": ["terms"]},
    "spaces": {"Space": ["names", "degree", "forms"]},
    "equations": {"first_trees": ["sheet", "degree"], "equations": ["sheet", "degree"]},
    "papers": {
        "certificate": ["sheet", "degree"], "shows_equations": ["sheet", "degree", "thing"],
        "shows_closed": ["sheet", "degree", "thing"], "order_certificate": ["sheet", "degree"],
        "shows_order": ["sheet", "degree", "thing"]},
    "breaks": {
        "first_breaks": ["sheet", "kind", "forms"], "first_break": ["sheet", "kind", "form"],
        "all_breaks": ["sheet", "kind", "forms"], "holds": ["sheet", "kind", "form"]},
    "told": {
        "lower_multiples": ["sheet", "kind", "degree"], "new_equations": ["sheet", "kind", "degree"],
        "told_by": ["sheet", "kind", "name", "others"], "untold": ["sheet", "kind", "name", "others"],
        "shows_untold": ["sheet", "kind", "name", "others", "thing"]},
    "stored": {
        "is_enough": ["sheet", "kind", "names"], "cheapest_sets": ["sheet", "kind", "prices"],
        "stored": ["sheet", "kind", "prices"], "shows_stored": ["sheet", "kind", "prices", "thing"],
        "exchanges": ["sheet", "kind", "prices", "one", "other"]},
    "bends": {
        "bends_within": ["sheet", "kind", "names"], "distance": ["sheet", "kind"],
        "noticed_by": ["sheet", "kind", "degree", "row"], "blind_changes": ["sheet", "kind", "degree", "tree", "name"],
        "sure_numbers": ["sheet", "kind", "degree", "tree"]},
    "filters": {
        "is_filter": ["schema", "thing"], "states_at": ["schema", "some", "tree"], "lets_by": ["schema", "some", "tree"],
        "lacking": ["schema", "one", "other"], "first_under": ["sheet", "some", "degree"],
        "equations_under": ["sheet", "some", "degree"], "added_equations": ["sheet", "some", "degree"]},
    "changes": {
        "with_variant": ["sheet", "kind", "variant", "rules"], "without_variant": ["sheet", "tag"],
        "with_rules": ["sheet", "tag", "rules"], "joined": ["one", "other"], "compared_equations": ["one", "other", "degree"],
        "least_filters": ["sheet", "filters", "kind", "form"],
        "cheapest_filters": ["sheet", "filters", "kind", "form", "prices"]},
    "modulo": {
        "ModSpace": ["names", "degree", "modulus", "forms"], "first_trees_modulo": ["sheet", "degree", "modulus"],
        "equations_modulo": ["sheet", "degree", "modulus"], "first_break_modulo": ["sheet", "kind", "form", "modulus"]},
    "documents": {"Document": ["sheet", "kind", "tree"]},
    "ledger": {"Ledger": ["sheet"]},
    "texts": {
        "parse_tree": ["text"], "parse_form": ["text"], "parse_rule": ["text"], "parse_sheet": ["text"],
        "format_tree": ["tree"], "format_rule": ["rule"], "format_sheet": ["sheet"]},
    "console": {"Console": []},
}

# file and class: its methods, each with its parameters behind self
METHODS = {
    ("forms", "Form"): {name: ["other"] for name in (
        "__add__ __radd__ __sub__ __rsub__ __mul__ __rmul__ __eq__ __lt__ __le__ __gt__ __ge__").split()} | {
        "__neg__": [], "__bool__": [], "__len__": [], "__str__": [], "__contains__": ["name"], "__call__": ["values"]},
    ("spaces", "Space"): {
        "columns": [], "free": [], "rest": ["form"], "within": ["other"], "__or__": ["other"], "__and__": ["other"],
        "__eq__": ["other"], "__contains__": ["form"], "__len__": [], "__bool__": []},
    ("modulo", "ModSpace"): {
        "many": [], "columns": [], "rest": ["form"], "__or__": ["other"], "__and__": ["other"], "__eq__": ["other"],
        "__contains__": ["form"], "__len__": [], "__bool__": []},
    ("documents", "Document"): {
        "tree": [], "deeds": [], "paths": [], "part": ["path"], "__getitem__": ["path"], "__setitem__": ["path", "tree"],
        "__contains__": ["path"], "__len__": [], "exchange": ["one", "other"], "undo": [], "redo": [], "changed": [],
        "watch": ["kind", "form"], "failing": ["number"]},
    ("ledger", "Ledger"): {
        "sheet_now": [], "kept": [], "verdicts": [], "documents": [], "keep": ["name", "kind", "form"], "forget": ["name"],
        "add_variant": ["kind", "variant", "rules"], "drop_variant": ["tag"], "set_rules": ["tag", "rules"],
        "put": ["name", "kind", "tree"], "drop": ["name"], "replace": ["name", "path", "tree"], "exchange": ["name", "one", "other"],
        "bend": ["name", "path", "number", "change"], "stored": ["name", "path"], "alarms": ["name"], "notes": [], "mark": [],
        "back": ["number"], "need_tree": ["tree"]},
    ("console", "Console"): {"execute": ["line"]},
}
PROPERTIES = {("modulo", "ModSpace"): ("many",), ("documents", "Document"): ("tree", "deeds")}
# file and class: the arguments of an object, and its attributes
ATTRIBUTES = {("forms", "Form"): (((),), ("terms", "degree", "names")),
              ("spaces", "Space"): (((), 0, ()), ("names", "degree", "basis")),
              ("modulo", "ModSpace"): (((), 0, 2, ()), ("names", "degree", "modulus", "basis"))}


class InterfaceTest(unittest.TestCase):
    def test_each_name_is_defined_in_its_file(self):
        for file, names in LISTED.items():
            tree = ast.parse((ROOT / "treelaws" / f"{file}.py").read_text())
            defined = [node.name for node in tree.body if isinstance(node, (ast.FunctionDef, ast.ClassDef))]
            module = importlib.import_module(f"treelaws.{file}")
            for name in names:
                self.assertIn(name, defined)
                self.assertEqual(getattr(module, name).__module__, f"treelaws.{file}")

    def test_parameters(self):
        for file, names in LISTED.items():
            module = importlib.import_module(f"treelaws.{file}")
            for name, parameters in names.items():
                if parameters is not None:
                    self.assertEqual(list(inspect.signature(getattr(module, name)).parameters), parameters, name)

    def test_methods_stand_in_the_class_itself(self):
        for (file, name), methods in METHODS.items():
            tree = ast.parse((ROOT / "treelaws" / f"{file}.py").read_text())
            body = next(node for node in tree.body if isinstance(node, ast.ClassDef) and node.name == name).body
            defined = {node.name: [arg.arg for arg in node.args.args] for node in body if isinstance(node, ast.FunctionDef)}
            for method, parameters in methods.items():
                self.assertEqual(defined[method], ["self"] + parameters, (name, method))

    def test_static_methods(self):
        found = importlib.import_module("treelaws.forms").Form
        for name in ("named", "number"):
            self.assertIsInstance(vars(found)[name], staticmethod)
            self.assertEqual(len(inspect.signature(getattr(found, name)).parameters), 1)

    def test_attributes_are_set_on_each_object(self):
        for (file, name), (arguments, attributes) in ATTRIBUTES.items():
            made = getattr(importlib.import_module(f"treelaws.{file}"), name)(*arguments)
            for attribute in attributes:
                self.assertIn(attribute, vars(made))

    def test_properties(self):
        for (file, name), properties in PROPERTIES.items():
            for one in properties:
                self.assertIsInstance(vars(getattr(importlib.import_module(f"treelaws.{file}"), name))[one], property)

    def test_trees_generates(self):
        module = importlib.import_module("treelaws.trees")
        self.assertTrue(inspect.isgenerator(module.trees({"a": (("t", ()),)}, "a", 1)))
