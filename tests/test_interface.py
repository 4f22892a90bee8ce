import ast
import importlib
import inspect
import pathlib
import unittest

ROOT = pathlib.Path(__file__).resolve().parent.parent

# file: its names, each with its parameters (None for a class that is made with a message)
LISTED = {
    "errors": {name: None for name in (
        "TreeError NoSchema NoSheet NoTree NoForm NoSpace NoFilter NoModulus Mismatch NoKind NoNumber NoPath NoPrice "
        "NameTaken NoName NoMark InvalidCommand").split()} | {
        "SyntaxProblem": ["line", "column"], "TooMany": ["limit"]},
    "names": {"is_name": ["thing"]},
    "schemas": {
        "is_schema": ["thing"], "tags_of": ["schema"], "kind_of": ["schema", "tag"], "children_of": ["schema", "tag"],
        "empty_kinds": ["schema"], "kinds_within": ["schema", "kind"]},
    "trees": {
        "is_tree": ["schema", "kind", "thing"], "size_of": ["tree"], "paths": ["tree"], "part_at": ["tree", "path"],
        "put_at": ["tree", "path", "part"], "in_order": ["schema", "some"], "how_many": ["schema", "kind", "size"],
        "trees": ["schema", "kind", "size"], "least_tree": ["schema", "kind"]},
}


class InterfaceTest(unittest.TestCase):
    def test_each_name_is_defined_in_its_file(self):
        for file, names in LISTED.items():
            tree = ast.parse((ROOT / "treelaws" / f"{file}.py").read_text())
            defined = [node.name for node in tree.body if isinstance(node, (ast.FunctionDef, ast.ClassDef))]
            module = importlib.import_module(f"treelaws.{file}")
            for name in names:
                self.assertIn(name, defined)
                self.assertEqual(getattr(module, name).__module__, f"treelaws.{file}")

    def test_parameters(self):
        for file, names in LISTED.items():
            module = importlib.import_module(f"treelaws.{file}")
            for name, parameters in names.items():
                if parameters is not None:
                    self.assertEqual(list(inspect.signature(getattr(module, name)).parameters), parameters, name)

    def test_trees_generates(self):
        module = importlib.import_module("treelaws.trees")
        self.assertTrue(inspect.isgenerator(module.trees({"a": (("t", ()),)}, "a", 1)))
