import ast
import builtins
import pathlib
import re
import unittest

PACKAGE = pathlib.Path(__file__).resolve().parent.parent / "treelaws"
FILES = sorted(PACKAGE.glob("*.py"))
TREES = {path: ast.parse(path.read_text()) for path in FILES}
LIBRARY = {"math": {"gcd", "lcm", "isqrt", "comb", "perm", "factorial"}}
CALLED = set("len range enumerate zip min max sum abs sorted reversed int str bool list tuple dict set isinstance ord repr "
             "any all divmod super".split())
METHODS = set("append clear copy count endswith extend find get index insert isalnum isalpha isdigit islower isspace isupper "
              "items join keys ljust lower lstrip partition pop remove replace reverse rfind rjust rpartition rsplit rstrip "
              "setdefault split splitlines startswith strip update upper values zfill bit_length".split())
DUNDERS = set("__init__ __eq__ __str__ __len__ __call__ __lt__ __le__ __gt__ __ge__ __add__ __sub__ __mul__ __radd__ __rsub__ "
              "__rmul__ __neg__ __bool__ __contains__ __or__ __and__ __getitem__ __setitem__ __iter__".split())
BARRED = set("register mro elements open input law version_info with_traceback add_note type typing enum namedtuple".split())
STATEMENTS = (ast.Assign, ast.AugAssign, ast.If, ast.While, ast.For, ast.Return, ast.Break, ast.Continue, ast.Pass,
              ast.Raise, ast.Expr, ast.FunctionDef, ast.ClassDef, ast.ImportFrom)
EXPRESSIONS = (ast.Lambda, ast.GeneratorExp, ast.NamedExpr, ast.Starred, ast.Await, ast.Div, ast.Pow)


def nodes(kind):
    return [(path.name, node) for path, tree in TREES.items() for node in ast.walk(tree) if isinstance(node, kind)]


def is_plain(node):
    """Whether sorted, min and max may take an expression in a package whose classes have an order (L5)."""
    if isinstance(node, ast.Call) and isinstance(node.func, ast.Name):
        return node.func.id in ("len", "int", "str", "set", "ord", "repr", "range")
    return isinstance(node, (ast.Constant, ast.JoinedStr)) or isinstance(node, ast.ListComp) and is_plain(node.elt)


def called_by_operators():
    """All functions that operators, properties and the like reach, each with its class or None, told by bare names."""
    functions, methods, classes = {}, {}, {}
    for tree in TREES.values():
        for node in tree.body:
            if isinstance(node, ast.FunctionDef):
                functions.setdefault(node.name, []).append((None, node))
            elif isinstance(node, ast.ClassDef):
                parts = [part for part in node.body if isinstance(part, ast.FunctionDef)]
                classes[node.name] = [(node.name, part) for part in parts if part.name == "__init__"]
                for part in parts:
                    methods.setdefault(part.name, []).append((node.name, part))
    ahead = [one for name, some in methods.items() for one in some if name in DUNDERS - {"__init__", "__setitem__", "__iter__"}
             or [mark for mark in one[1].decorator_list if mark.id == "property"]]
    found = []
    while ahead:
        one = ahead.pop()
        if one not in found:
            found.append(one)
            for node in ast.walk(one[1]):
                if isinstance(node, ast.Call) and isinstance(node.func, ast.Name):
                    ahead += functions.get(node.func.id, []) + classes.get(node.func.id, [])
                elif isinstance(node, ast.Call) and node.func.attr != "__init__":
                    ahead += methods.get(node.func.attr, [])
    return found


def base_of(node):
    """The name to which an attribute, an item or a method's call belongs, or None."""
    while isinstance(node, (ast.Attribute, ast.Subscript)):
        node = node.value
    return node.id if isinstance(node, ast.Name) else None


class LanguageTest(unittest.TestCase):
    """Those rules of LANGUAGE.md that a few lines can check, some of them more strictly than they are told."""

    def test_the_folder_holds_only_python_files(self):
        others = [path.name for path in PACKAGE.iterdir() if path.suffix != ".py" and path.name != "__pycache__"]
        self.assertEqual(others, [])
        self.assertIn(PACKAGE / "__init__.py", FILES)
        for path in FILES:
            self.assertNotIn(path.stem, dir(builtins))

    def test_lines_and_characters(self):
        for path in FILES:
            text = path.read_bytes().decode("ascii")
            lines = text.split("\n")
            self.assertLessEqual(len(lines) - 1, 399, path)
            self.assertLessEqual(max(len(line) for line in lines), 120, path)
            self.assertTrue(all(" " <= sign <= "~" or sign == "\n" for sign in text), path)
            for word in ("(type)", "Meta", "metaclass="):
                self.assertNotIn(word, text, path)

    def test_functions_are_small_and_plain(self):
        for name, node in nodes(ast.FunctionDef):
            self.assertLessEqual(node.end_lineno - node.lineno + 1, 40, (name, node.name))
            self.assertFalse(node.args.vararg or node.args.kwarg or node.args.kwonlyargs or node.args.defaults, node.name)
            for decorator in node.decorator_list:
                self.assertIn(decorator.id, ("staticmethod", "property"))

    def test_imports_are_full_names_of_the_defining_files_at_the_top(self):
        defined = {f"treelaws.{path.stem}": {node.name if hasattr(node, "name") else node.targets[0].id
                                             for node in tree.body if isinstance(node, (ast.FunctionDef, ast.ClassDef, ast.Assign))}
                   for path, tree in TREES.items()}
        for path, tree in TREES.items():
            self.assertFalse([node for node in ast.walk(tree) if isinstance(node, ast.Import)])
            names = []
            for node in ast.walk(tree):
                if isinstance(node, ast.ImportFrom):
                    self.assertIn(node, tree.body, path)
                    self.assertEqual(node.level, 0, path)
                    for alias in node.names:
                        self.assertIn(alias.name, {**defined, **LIBRARY}[node.module], path)
                        self.assertIsNone(alias.asname)
                        names.append(alias.name)
            used = [node.id for node in ast.walk(tree) if isinstance(node, ast.Name)]
            self.assertEqual([name for name in names if name not in used], [], path)

    def test_no_two_files_import_from_each_other(self):
        seen = {}
        for path, tree in TREES.items():
            seen[f"treelaws.{path.stem}"] = {node.module for node in tree.body if isinstance(node, ast.ImportFrom)}
        while seen:
            free = [name for name, modules in seen.items() if not modules & set(seen)]
            self.assertTrue(free, seen)
            seen = {name: modules for name, modules in seen.items() if name not in free}

    def test_statements_and_expressions(self):
        for name, node in nodes(ast.stmt):
            self.assertIsInstance(node, STATEMENTS, (name, node.lineno))
        for kind in EXPRESSIONS:
            self.assertEqual([(name, getattr(node, "lineno", 0)) for name, node in nodes(kind)], [])
        for name, node in nodes(ast.Constant):
            self.assertIsInstance(node.value, (int, str, type(None)), name)
            if isinstance(node.value, str):
                self.assertNotIn("%", node.value, name)

    def test_yield_stands_in_trees_alone(self):
        self.assertEqual({name for name, _ in nodes((ast.Yield, ast.YieldFrom))}, {"trees.py"})

    def test_what_is_added_in_place_is_a_literal(self):
        for name, node in nodes(ast.AugAssign):
            self.assertTrue(isinstance(node.value, ast.Constant) and isinstance(node.value.value, int), (name, node.lineno))

    def test_identity_is_asked_of_none_alone(self):
        for name, node in nodes(ast.Compare):
            for sign, other in zip(node.ops, node.comparators):
                if isinstance(sign, (ast.Is, ast.IsNot)):
                    self.assertTrue(isinstance(other, ast.Constant) and other.value is None, (name, node.lineno))

    def test_calls(self):
        own = {node.name for _, node in nodes((ast.FunctionDef, ast.ClassDef))} | LIBRARY["math"]
        errors = {name for name in dir(builtins) if name.endswith("Error")}
        for name, node in nodes(ast.Call):
            if isinstance(node.func, ast.Name):
                local = node.func.id in ("form", "action", "read", "TypeError")
                self.assertTrue(node.func.id in own | CALLED - errors or local, (name, node.func.id))
            else:
                self.assertIn(node.func.attr, METHODS | own, name)
            for keyword in node.keywords:
                self.assertIn((node.func.id, keyword.arg), (("sorted", "key"), ("max", "default")), name)

    def test_sorted_min_and_max_take_plain_things(self):
        for name, node in nodes(ast.Call):
            if isinstance(node.func, ast.Name) and node.func.id in ("sorted", "min", "max"):
                keys = [keyword.value.id for keyword in node.keywords if keyword.arg == "key"]
                self.assertTrue(keys and keys[0] in ("str", "int", "len") or any(is_plain(arg) for arg in node.args),
                                (name, node.lineno))

    def test_operators_change_only_what_they_created(self):
        found = called_by_operators()
        self.assertGreater(len(found), 60)
        for owner, function in found:
            parameters = [one.arg for one in function.args.args]
            for node in ast.walk(function):
                changed = isinstance(node, (ast.Attribute, ast.Subscript)) and isinstance(node.ctx, ast.Store)
                calls = isinstance(node, ast.Call) and isinstance(node.func, ast.Attribute)
                if changed or calls and node.func.attr in ("append", "clear", "extend", "insert", "pop", "remove", "reverse", "update"):
                    base = base_of(node if changed else node.func.value)
                    own = function.name == "__init__" and base == "self"
                    self.assertTrue(own or base is not None and base not in parameters, (owner, function.name, node.lineno))

    def test_reversed_takes_plain_things(self):
        for name, node in nodes(ast.Call):
            if isinstance(node.func, ast.Name) and node.func.id == "reversed":
                self.assertIn(node.args[0].func.id, ("list", "tuple", "sorted", "range"), (name, node.lineno))

    def test_views_are_iterated_on_the_spot(self):
        # Only the first argument of zip may be a view.
        for name, node in nodes(ast.Call):
            if isinstance(node.func, ast.Name) and node.func.id == "zip":
                for other in [other.func for other in node.args[1:] if isinstance(other, ast.Call)]:
                    self.assertNotIn(getattr(other, "attr", ""), ("items", "keys", "values"), (name, node.lineno))
                    self.assertNotIn(getattr(other, "id", ""), ("zip", "range", "enumerate", "reversed"), (name, node.lineno))

    def test_what_can_be_indexed_refuses_to_be_iterated(self):
        found = 0
        for name, node in nodes(ast.ClassDef):
            methods = {part.name: part for part in node.body if isinstance(part, ast.FunctionDef)}
            if "__getitem__" in methods:
                self.assertIsInstance(methods["__iter__"].body[0], ast.Raise, name)
                found += 1
        self.assertEqual(found, 1)

    def test_sets_stand_where_they_may(self):
        parents = {child: node for tree in TREES.values() for node in ast.walk(tree) for child in ast.iter_child_nodes(node)}
        for name, node in nodes((ast.Set, ast.SetComp)):
            self.fail((name, node.lineno))
        for name, node in nodes(ast.Call):
            if isinstance(node.func, ast.Name) and node.func.id == "set":
                above = parents[node]
                above = parents[above] if isinstance(above, ast.BinOp) else above
                self.assertTrue(isinstance(above, ast.Call) and above.func.id in ("sorted", "len"), (name, node.lineno))

    def test_names(self):
        for path, tree in TREES.items():
            taken = {alias.name for node in tree.body if isinstance(node, ast.ImportFrom) for alias in node.names}
            taken |= {node.name for node in ast.walk(tree) if isinstance(node, ast.ClassDef)}
            self.assertFalse([node.name for node in ast.walk(tree) if isinstance(node, ast.ClassDef) and node.name[0] == "_"])
            bound = [node.id for node in ast.walk(tree) if isinstance(node, ast.Name) and isinstance(node.ctx, ast.Store)]
            bound += [node.arg for node in ast.walk(tree) if isinstance(node, ast.arg)]
            methods = [part for node in ast.walk(tree) if isinstance(node, ast.ClassDef) for part in node.body
                       if isinstance(part, ast.FunctionDef)]
            bound += [node.name for node in ast.walk(tree) if isinstance(node, ast.FunctionDef) and node not in methods]
            for name in bound:
                self.assertNotIn(name, taken | (set(dir(builtins)) - {"_"}) | BARRED, path)
                self.assertIsNone(re.match("__|_law|_wall|_lay|_stub|_cm_|_pe_", name))
            for node in methods:
                self.assertTrue(not node.name.startswith("__") or node.name in DUNDERS, node.name)

    def test_attributes_are_no_methods(self):
        attributes = {node.attr for _, node in nodes(ast.Attribute) if isinstance(node.ctx, ast.Store)}
        methods = {part.name for _, node in nodes(ast.ClassDef) for part in node.body if isinstance(part, ast.FunctionDef)}
        taken = set(dir(str)) | set(dir(int)) | set(dir(list)) | set(dir(dict)) | set(dir(set)) | set(dir(bytes))
        self.assertEqual(attributes & methods, set())
        # L26 lets a method be called like some methods of strings.
        self.assertEqual((attributes | methods) & taken - DUNDERS, {"replace"})
        self.assertNotIn("replace", attributes)
        self.assertNotIn("keys", attributes | methods)
