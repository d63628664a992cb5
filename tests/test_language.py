"""Rules of LANGUAGE.md that can be seen from the files of the package, each named by its number."""

import ast
import builtins
import pathlib
import unittest

FOLDER = pathlib.Path(__file__).resolve().parent.parent / "turnedtalk"
FILES = sorted(FOLDER.glob("**/*.py"))
STATEMENTS = (
    ast.Assign, ast.AugAssign, ast.If, ast.While, ast.For, ast.Return, ast.Break, ast.Continue, ast.Pass, ast.Raise,
    ast.Assert, ast.Delete, ast.Nonlocal, ast.Expr, ast.Try, ast.FunctionDef, ast.ClassDef, ast.ImportFrom,
)
LIBRARY = {"math": ("comb",)}
BUILTINS = (
    "len range enumerate zip min max sum abs sorted reversed int str bool list tuple dict set frozenset isinstance ord"
    " repr any all divmod pow iter next map Exception ValueError TypeError KeyError IndexError LookupError"
    " ZeroDivisionError ArithmeticError OverflowError RuntimeError NotImplementedError AttributeError StopIteration"
).split()
METHODS = (
    "append clear copy count endswith extend find get index insert isalnum isalpha isdigit islower isspace isupper"
    " items join keys ljust lower lstrip partition pop remove replace reverse rfind rjust rpartition rsplit rstrip"
    " setdefault split splitlines startswith strip update upper values zfill bit_length title capitalize swapcase"
    " casefold center expandtabs removeprefix removesuffix rindex isascii isdecimal isnumeric istitle isidentifier"
    " isprintable add discard"
).split()
DOUBLE = ("__init__", "__eq__", "__repr__", "__str__", "__len__")
UNUSED = (
    "register mro elements open input law version_info with_traceback add_note type typing enum compile dir eval exec"
    " exit globals help id locals os quit vars sys hash format"
).split()


def nodes(kind):
    """All nodes of a kind, with the name of their file."""
    for path in FILES:
        for node in ast.walk(ast.parse(path.read_text())):
            if isinstance(node, kind):
                yield path.name, node


def bound_names(node):
    """The names that a function binds, its parameters included."""
    found = [part.arg for part in ast.walk(node) if isinstance(part, ast.arg)]
    for part in ast.walk(node):
        if isinstance(part, ast.Name) and not isinstance(part.ctx, ast.Load):
            found.append(part.id)
    return found


class Rules(unittest.TestCase):
    def test_l1_and_l14_the_folder_and_its_signs(self):
        for path in FOLDER.iterdir():
            self.assertTrue(path.suffix == ".py" or path.name == "__pycache__", path)
        self.assertIn("__init__.py", [path.name for path in FILES])
        for path in FILES:
            text = path.read_text()
            self.assertTrue(all(" " <= sign <= "~" or sign == "\n" for sign in text), path.name)
            self.assertTrue(path.stem == "__init__" or path.stem.islower(), path.name)

    def test_l2_and_l16_imports(self):
        places = {}
        for path in FILES:
            for node in ast.parse(path.read_text()).body:
                if isinstance(node, (ast.FunctionDef, ast.ClassDef)):
                    places[path.stem, node.name] = True
                elif isinstance(node, ast.Assign):
                    places[path.stem, node.targets[0].id] = True
        froms = {}
        for name, node in nodes((ast.Import, ast.ImportFrom)):
            self.assertIsInstance(node, ast.ImportFrom, name)
            if node.module in LIBRARY:
                for alias in node.names:
                    self.assertIn(alias.name, LIBRARY[node.module], name)
                    self.assertIsNone(alias.asname)
                continue
            package, _, module = node.module.partition(".")
            self.assertEqual((package, node.level), ("turnedtalk", 0), name)
            froms.setdefault(name.removesuffix(".py"), []).append(module)
            for alias in node.names:
                self.assertIsNone(alias.asname)
                self.assertIn((module, alias.name), places, name)
        while froms:
            free = [name for name in froms if not any(module in froms for module in froms[name])]
            self.assertTrue(free, f"these import from each other: {sorted(froms)}")
            for name in free:
                del froms[name]

    def test_l3_module_level(self):
        for path in FILES:
            above = []
            for at, node in enumerate(ast.parse(path.read_text()).body):
                if isinstance(node, ast.Expr):
                    self.assertEqual(at, 0, path.name)
                elif isinstance(node, ast.Assign):
                    self.assertEqual(len(node.targets), 1)
                    self.assertIsInstance(node.targets[0], ast.Name)
                    if isinstance(node.value, ast.Dict):
                        # functions that are defined above may stand in a dict
                        for part in node.value.values:
                            self.assertTrue(not isinstance(part, ast.Name) or part.id in above, path.name)
                        node.value.values = [part for part in node.value.values if not isinstance(part, ast.Name)]
                        node.value.keys = node.value.keys[:len(node.value.values)]
                    ast.literal_eval(node.value)
                elif isinstance(node, ast.FunctionDef):
                    above.append(node.name)
                else:
                    self.assertIsInstance(node, (ast.ImportFrom, ast.FunctionDef, ast.ClassDef), path.name)

    def test_l4_l5_and_l15_functions_and_classes(self):
        for path in FILES:
            tree = ast.parse(path.read_text())
            outer = [node.name for node in tree.body if isinstance(node, ast.ClassDef)]
            for node in tree.body:
                if isinstance(node, ast.ImportFrom):
                    outer += [alias.name for alias in node.names]
            bound = outer + [node.name for node in tree.body if isinstance(node, ast.FunctionDef)]
            self.assertEqual(len(bound), len(set(bound)), path.name)
            for node in ast.walk(tree):
                if isinstance(node, ast.FunctionDef):
                    self.assertTrue(not node.name.startswith("__") or node.name in DOUBLE, node.name)
                    for name in bound_names(node):
                        self.assertNotIn(name, outer, path.name)
                        self.assertFalse(hasattr(builtins, name), (path.name, name))
                        self.assertFalse(name.startswith("__"))
                if isinstance(node, (ast.FunctionDef, ast.ClassDef)) and not node.name.startswith("__"):
                    self.assertFalse(hasattr(builtins, node.name), node.name)

    def test_l6_statements(self):
        for name, node in nodes(ast.stmt):
            self.assertIsInstance(node, STATEMENTS, (name, node.lineno))

    def test_l7_expressions(self):
        for name, node in nodes((ast.Await, ast.Div, ast.MatMult)):
            self.fail((name, ast.dump(node)))
        # a class of the package has __eq__
        for name, node in nodes(ast.Call):
            if isinstance(node.func, ast.Name) and node.func.id in ("any", "all", "min", "max", "sum", "sorted"):
                self.assertNotIsInstance(node.args[0], ast.GeneratorExp, (name, node.lineno))
        for name, node in nodes(ast.Constant):
            self.assertNotIsInstance(node.value, (float, complex), name)
            if isinstance(node.value, str):
                self.assertNotIn("%", node.value)

    def test_l8_and_l17_names(self):
        for name, node in nodes(ast.Name):
            if hasattr(builtins, node.id):
                self.assertIn(node.id, BUILTINS, (name, node.lineno))
            self.assertNotIn(node.id, UNUSED, (name, node.lineno))
        for name, node in nodes(ast.Attribute):
            self.assertNotIn(node.attr, UNUSED, (name, node.lineno))
            if node.attr == "__name__":
                self.assertEqual(getattr(node.value, "attr", None), "__class__", (name, node.lineno))
            elif node.attr not in ("__class__", "__init__"):
                self.assertFalse(node.attr.startswith("__"), (name, node.lineno))

    def test_l10_sizes(self):
        for path in FILES:
            lines = path.read_text().split("\n")
            self.assertLess(len(lines), 400, path.name)
            self.assertLessEqual(max(len(line) for line in lines), 120, path.name)
        for name, node in nodes(ast.FunctionDef):
            self.assertLessEqual(node.end_lineno - node.lineno + 1, 40, (name, node.name))

    def test_l20_is(self):
        for name, node in nodes(ast.Compare):
            for sign, other in zip(node.ops, node.comparators):
                if isinstance(sign, (ast.Is, ast.IsNot)):
                    self.assertIsInstance(other, ast.Constant, (name, node.lineno))
                    self.assertIn(other.value, (None, True, False))

    def test_l25_methods_of_builtin_values(self):
        own = [node.name for _, node in nodes(ast.FunctionDef)]
        own += [node.attr for _, node in nodes(ast.Attribute) if isinstance(node.ctx, ast.Store)]
        for name, node in nodes(ast.Call):
            if isinstance(node.func, ast.Attribute):
                self.assertIn(node.func.attr, [*METHODS, *own], (name, node.lineno))


if __name__ == "__main__":
    unittest.main()
