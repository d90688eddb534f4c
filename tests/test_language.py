"""The rows of LANGUAGE.md that can be looked at simply, over the package's own files."""

import ast
import pathlib
import re
import unittest

PACKAGE = pathlib.Path(__file__).resolve().parent.parent / "oneindex"
FILES = sorted(PACKAGE.rglob("*.py"))

BARRED = (
    ast.With, ast.Match, ast.Delete, ast.Global, ast.Nonlocal, ast.Assert, ast.Yield, ast.YieldFrom, ast.Await,
    ast.AsyncFunctionDef, ast.SetComp, ast.DictComp, ast.GeneratorExp, ast.NamedExpr, ast.Starred, ast.Div,
    ast.AnnAssign, ast.Set,
)
CALLED = (
    "len range enumerate zip min max sum abs sorted reversed int str bool list tuple dict set frozenset isinstance "
    "ord repr any all divmod"
).split()
METHODS = (
    "append clear copy count endswith extend find get index insert isalnum isalpha isdigit islower isspace isupper "
    "items join keys ljust lower lstrip partition pop remove replace reverse rfind rjust rpartition rsplit rstrip "
    "setdefault split splitlines startswith strip update upper values zfill bit_length"
).split()
UNWRITTEN = (
    r"\b(type|typing|typing_extensions|enum|Enum|IntEnum|StrEnum|Flag|IntFlag|Generic|Protocol|ABC|ABCMeta|namedtuple"
    r"|NamedTuple|TypedDict|TYPE_CHECKING|abstractmethod)\b|dataclass|overload|contextmanager"
)
TAKEN = (
    "abs all any bin bool bytes callable chr dict dir divmod enumerate eval exec filter float format frozenset hash help "
    "hex id input int isinstance iter len list map max min next object oct open ord pow print property range repr "
    "reversed round set slice sorted str sum super tuple type vars zip"
).split()


class Language(unittest.TestCase):
    def each(self):
        self.assertTrue(FILES)
        for path in FILES:
            text = path.read_text(encoding="utf-8")
            yield path.name, text, ast.parse(text)

    def nodes(self, kind):
        for name, text, tree in self.each():
            for node in ast.walk(tree):
                if isinstance(node, kind):
                    yield f"{name}:{getattr(node, 'lineno', 0)}", node

    def test_nothing_else_in_the_package(self):
        left = [path.name for path in PACKAGE.rglob("*") if path.suffix not in (".py", ".pyc") and path.is_file()]
        self.assertEqual(left, [])

    def test_size_and_signs(self):
        for name, text, tree in self.each():
            self.assertLessEqual(text.count("\n"), 399, name)
            for number, row in enumerate(text.split("\n"), start=1):
                self.assertLessEqual(len(row), 120, (name, number))
                self.assertTrue(all(" " <= sign <= "~" for sign in row), (name, number))
            self.assertIsNone(re.search(UNWRITTEN, text), name)
        for place, node in self.nodes(ast.FunctionDef):
            self.assertLessEqual(node.end_lineno - node.lineno + 1, 40, place)

    def test_barred_forms(self):
        self.assertEqual([place for place, node in self.nodes(BARRED)], [])
        for place, node in self.nodes(ast.FunctionDef):
            self.assertEqual(node.decorator_list, [], place)
            self.assertIsNone(node.args.vararg or node.args.kwarg or node.returns, place)
        for place, node in self.nodes(ast.Assign):
            self.assertEqual(len(node.targets), 1, place)
        for place, node in self.nodes((ast.For, ast.While)):
            self.assertEqual(node.orelse, [], place)
        for place, node in self.nodes(ast.ListComp):
            self.assertEqual(len(node.generators), 1, place)
            self.assertLessEqual(len(node.generators[0].ifs), 1, place)
        for place, node in self.nodes(ast.Try):
            self.assertEqual(node.finalbody, [], place)

    def test_imports_are_the_package_s_own(self):
        self.assertEqual([place for place, node in self.nodes(ast.Import)], [])
        for place, node in self.nodes(ast.ImportFrom):
            self.assertTrue(node.level == 0 and node.module.startswith("oneindex."), place)
            self.assertTrue(all(each.asname is None and each.name != "*" for each in node.names), place)

    def test_no_two_files_draw_from_one_another(self):
        drawn = {}
        for name, text, tree in self.each():
            modules = [node.module for node in ast.walk(tree) if isinstance(node, ast.ImportFrom)]
            drawn[f"oneindex.{name[:-3]}"] = modules
        self.assertEqual(drawn.pop("oneindex.__init__"), [])
        while drawn:
            ready = [name for name, modules in drawn.items() if not set(modules) & set(drawn)]
            self.assertTrue(ready, drawn)
            drawn = {name: modules for name, modules in drawn.items() if name not in ready}

    def test_keywords(self):
        allowed = {"sorted": ("key", "reverse"), "min": ("key", "default"), "max": ("key", "default")}
        for place, node in self.nodes(ast.Call):
            for keyword in node.keywords:
                self.assertIn(keyword.arg, allowed.get(getattr(node.func, "id", ""), ()), place)
                if keyword.arg == "reverse":
                    self.assertIsInstance(keyword.value, ast.Constant, place)

    def test_is_stands_beside_none_and_truth_values(self):
        for place, node in self.nodes(ast.Compare):
            for sign, value in zip(node.ops, node.comparators):
                if isinstance(sign, (ast.Is, ast.IsNot)):
                    self.assertIn(getattr(value, "value", 0), (None, True, False), place)

    def test_locals_are_not_called_like_classes_or_imports(self):
        for name, text, tree in self.each():
            barred = [node.name for node in tree.body if isinstance(node, ast.ClassDef)]
            barred += [each.name for node in tree.body if isinstance(node, ast.ImportFrom) for each in node.names]
            bound = [node.arg for node in ast.walk(tree) if isinstance(node, ast.arg)]
            bound += [node.id for node in ast.walk(tree) if isinstance(node, ast.Name) and isinstance(node.ctx, ast.Store)]
            self.assertEqual(set(barred) & set(bound), set(), name)

    def test_names_that_are_called(self):
        own = {node.name for place, node in self.nodes((ast.FunctionDef, ast.ClassDef))}
        for place, node in self.nodes(ast.Call):
            if isinstance(node.func, ast.Name):
                self.assertIn(node.func.id, own | set(CALLED), place)
            else:
                self.assertIn(node.func.attr, own | set(METHODS) | {"__init__"}, place)

    def test_names_that_are_bound(self):
        bound = [(place, node.arg) for place, node in self.nodes(ast.arg)]
        bound += [(place, node.id) for place, node in self.nodes(ast.Name) if isinstance(node.ctx, ast.Store)]
        bound += [(place, node.name) for place, node in self.nodes((ast.FunctionDef, ast.ClassDef))]
        for place, name in bound:
            self.assertNotIn(name, TAKEN, place)
            self.assertTrue(name == "__init__" or not name.startswith("_"), place)

    def test_no_name_is_both_method_and_value(self):
        methods = {
            inner.name for place, node in self.nodes(ast.ClassDef) for inner in node.body
            if isinstance(inner, ast.FunctionDef)
        }
        given = {node.attr for place, node in self.nodes(ast.Attribute) if isinstance(node.ctx, ast.Store)}
        self.assertEqual(methods & given, set())


if __name__ == "__main__":
    unittest.main()
