"""The rules of LANGUAGE.md that can be seen from the code alone; the others are for whoever reads it."""

import ast
import pathlib
import re
import unittest

FOLDER = pathlib.Path(__file__).parent.parent / "downrings"
FILES = sorted(path for path in FOLDER.rglob("*") if path.is_file() and "__pycache__" not in path.parts)

BARRED_NODES = (
    ast.With, ast.Match, ast.Global, ast.Nonlocal, ast.Yield, ast.YieldFrom, ast.AsyncFunctionDef, ast.Await,
    ast.AsyncFor, ast.AsyncWith, ast.GeneratorExp, ast.NamedExpr, ast.Import, ast.Div, ast.MatMult,
)
BUILTINS = (
    "len range enumerate zip min max sum abs sorted reversed int str bool bytes list tuple dict set frozenset "
    "isinstance ord repr any all divmod Exception ValueError TypeError KeyError IndexError LookupError "
    "ZeroDivisionError ArithmeticError OverflowError RuntimeError NotImplementedError AttributeError StopIteration"
).split()
BARRED_NAMES = (
    "register mro elements open input version_info with_traceback add_note attrgetter breakpoint builtins compile "
    "copyright credits delattr dir eval exec exit gc getattr globals hasattr help id importlib license locals "
    "methodcaller os quit setattr super vars sys chr print hash next map round filter iter object property slice"
).split()
BARRED_WORDS = (
    r"\b(type|typing|typing_extensions|enum|Enum|IntEnum|StrEnum|Flag|IntFlag|Generic|Protocol|ABC|ABCMeta|namedtuple"
    r"|NamedTuple|TypedDict|TYPE_CHECKING|abstractmethod)\b|dataclass|overload|contextmanager"
)
METHODS = (
    "append clear copy count endswith extend find get index insert isalnum isalpha isdigit islower isspace isupper items "
    "join keys ljust lower lstrip partition pop remove replace reverse rfind rjust rpartition rsplit rstrip setdefault "
    "split splitlines startswith strip update upper values zfill bit_length sort"
).split()


class LanguageTest(unittest.TestCase):
    def each(self):
        for path in FILES:
            text = path.read_text()
            yield path, text, ast.parse(text)

    def nodes(self, *kinds):
        for path, text, tree in self.each():
            for node in ast.walk(tree):
                if isinstance(node, kinds):
                    yield path, tree, node

    def test_only_plain_files(self):
        self.assertIn("__init__.py", [path.name for path in FILES])
        for path in FILES:
            self.assertRegex(path.name, r"^(__init__|[a-z][a-z0-9_]*)\.py$")

    def test_sizes_and_signs(self):
        for path, text, tree in self.each():
            lines = text.split("\n")
            self.assertLessEqual(len(lines), 400)
            self.assertLessEqual(max(len(line) for line in lines), 120)
            self.assertEqual(re.findall(r"[^ -~\n]", text), [])
            self.assertIsNone(re.search(BARRED_WORDS, text))
        for path, tree, node in self.nodes(ast.FunctionDef):
            self.assertLessEqual(node.end_lineno - node.lineno + 1, 40, node.name)

    def test_no_barred_statement_or_expression(self):
        for path, tree, node in self.nodes(*BARRED_NODES):
            self.fail(f"{path.name}:{node.lineno}: {node}")
        for path, tree, node in self.nodes(ast.Starred):
            self.assertIsInstance(node.ctx, ast.Store)
        for path, tree, node in self.nodes(ast.Constant):
            self.assertNotIsInstance(node.value, (float, complex))
            self.assertNotIn("%", str(node.value))
        for path, tree, node in self.nodes(ast.For, ast.While):
            self.assertEqual(node.orelse, [])

    def test_functions_are_plain(self):
        for path, tree, node in self.nodes(ast.FunctionDef):
            self.assertEqual(node.decorator_list, [])
            self.assertIsNone(node.args.vararg)
            self.assertIsNone(node.args.kwarg)
            self.assertEqual(node.args.posonlyargs, [])
        for path, tree, node in self.nodes(ast.ClassDef):
            self.assertEqual(node.decorator_list, [])
            self.assertLessEqual(len(node.bases), 1)
            self.assertIn(node, tree.body)

    def test_module_level(self):
        for path, text, tree in self.each():
            for at, node in enumerate(tree.body):
                docstring = at == 0 and isinstance(node, ast.Expr) and isinstance(node.value, ast.Constant)
                plain = (ast.ImportFrom, ast.FunctionDef, ast.ClassDef, ast.Assign)
                self.assertTrue(docstring or isinstance(node, plain), node)

    def test_imports_name_the_file_that_defines_the_name(self):
        for path, tree, node in self.nodes(ast.ImportFrom):
            self.assertIn(node, tree.body)
            package, dot, module = node.module.partition(".")
            self.assertEqual((package, node.level), ("downrings", 0))
            source = ast.parse((FOLDER / f"{module}.py").read_text())
            defined = [part.name for part in source.body if isinstance(part, (ast.FunctionDef, ast.ClassDef))]
            defined += [part.targets[0].id for part in source.body if isinstance(part, ast.Assign)]
            for alias in node.names:
                self.assertIn(alias.name, defined)

    def test_names(self):
        for path, tree, node in self.nodes(ast.Name, ast.arg, ast.FunctionDef, ast.ClassDef, ast.Attribute):
            name = getattr(node, "id", None) or getattr(node, "arg", None) or getattr(node, "name", None) or node.attr
            self.assertNotIn(name, BARRED_NAMES)
            if name not in ("__init__", "__eq__", "__repr__", "__str__", "__len__", "__name__"):
                self.assertRegex(name, r"^[A-Za-z]")
            if not isinstance(node, ast.Name) or isinstance(node.ctx, ast.Store):
                self.assertNotIn(name, BUILTINS)

    def test_no_local_name_hides_an_import_or_a_class(self):
        for path, text, tree in self.each():
            outer = [node.name for node in tree.body if isinstance(node, ast.ClassDef)]
            outer += [alias.name for node in tree.body if isinstance(node, ast.ImportFrom) for alias in node.names]
            bound = [node.arg for node in ast.walk(tree) if isinstance(node, ast.arg)]
            bound += [node.id for node in ast.walk(tree)
                      if isinstance(node, ast.Name) and isinstance(node.ctx, ast.Store)]
            self.assertEqual(sorted(set(outer) & set(bound)), [])
            top = [node.name for node in tree.body if isinstance(node, (ast.ClassDef, ast.FunctionDef))]
            top += [node.targets[0].id for node in tree.body if isinstance(node, ast.Assign)]
            self.assertEqual(len(top + outer), len(set(top + outer)) + sum(name in top for name in outer))

    def test_is_only_with_none_and_truths(self):
        for path, tree, node in self.nodes(ast.Compare):
            for sign, right in zip(node.ops, node.comparators):
                if isinstance(sign, (ast.Is, ast.IsNot)):
                    self.assertIsInstance(right, ast.Constant)
                    self.assertIn(right.value, (None, True, False))

    def test_methods_that_are_called(self):
        own = {node.name for path, tree, node in self.nodes(ast.FunctionDef)}
        for path, tree, node in self.nodes(ast.Call):
            if isinstance(node.func, ast.Attribute):
                self.assertIn(node.func.attr, METHODS + sorted(own))

    def test_what_is_iterated_at_once_is_not_stored(self):
        for path, tree, node in self.nodes(ast.Assign):
            if isinstance(node.value, ast.Call) and isinstance(node.value.func, ast.Name):
                self.assertNotIn(node.value.func.id, ("zip", "enumerate", "reversed", "range"))

    def test_raise_makes_its_error_on_the_spot(self):
        for path, tree, node in self.nodes(ast.Raise):
            self.assertTrue(node.exc is None or isinstance(node.exc, ast.Call) and isinstance(node.exc.func, ast.Name))

    def test_no_name_is_a_method_and_an_attribute(self):
        methods, attributes = set(), set()
        for path, tree, node in self.nodes(ast.ClassDef):
            methods |= {part.name for part in node.body if isinstance(part, ast.FunctionDef)}
        for path, tree, node in self.nodes(ast.Attribute):
            if isinstance(node.ctx, ast.Store):
                attributes.add(node.attr)
        self.assertEqual(methods & attributes, set())
        builtin = {name for value in ("", 0, [], {}, set(), b"", ()) for name in dir(value)}
        self.assertEqual((methods | attributes) & builtin, {"__init__"})
        for path, tree, node in self.nodes(ast.Attribute):
            self.assertIn(node.attr, methods | attributes | set(METHODS))

    def test_no_two_files_import_from_each_other(self):
        imports = {path.stem: set() for path in FILES}
        for path, tree, node in self.nodes(ast.ImportFrom):
            imports[path.stem].add(node.module.partition(".")[2])
        while imports:
            ends = [name for name in imports if not imports[name] & set(imports)]
            self.assertTrue(ends, imports)
            imports = {name: imports[name] for name in imports if name not in ends}

    def test_tables_at_module_level_are_only_read(self):
        for path, text, tree in self.each():
            tables = [node.targets[0].id for node in tree.body
                      if isinstance(node, ast.Assign) and isinstance(node.value, (ast.Dict, ast.List))]
            for node in ast.walk(tree):
                if isinstance(node, (ast.Dict, ast.List)) and any(isinstance(part, (ast.Dict, ast.List))
                                                                  for part in ast.iter_child_nodes(node)):
                    self.assertNotIn(node, [part.value for part in tree.body if isinstance(part, ast.Assign)])
                if isinstance(node, ast.Subscript) and isinstance(node.value, ast.Name) and node.value.id in tables:
                    self.assertIsInstance(node.ctx, ast.Load)
                if isinstance(node, ast.Attribute) and isinstance(node.value, ast.Name):
                    self.assertNotIn(node.value.id, tables)


if __name__ == "__main__":
    unittest.main()
