"""The package keeps to the part of Python that it is written in, as far as a walk over its code can see."""

import ast
import builtins
import pathlib
import re
import unittest

PACKAGE = pathlib.Path(__file__).resolve().parent.parent / "bendlorries"
FILES = sorted(PACKAGE.glob("*.py"))
TREES = {path.name: ast.parse(path.read_text(encoding="utf-8")) for path in FILES}

NODES = (
    ast.Module, ast.Expr, ast.ImportFrom, ast.alias, ast.FunctionDef, ast.arguments, ast.arg, ast.ClassDef, ast.Assign,
    ast.AugAssign, ast.If, ast.While, ast.For, ast.Return, ast.Break, ast.Continue, ast.Pass, ast.Raise, ast.Constant,
    ast.Name, ast.List, ast.Tuple, ast.Dict, ast.BinOp, ast.UnaryOp, ast.BoolOp, ast.Compare, ast.IfExp, ast.Call,
    ast.Attribute, ast.Subscript, ast.Slice, ast.ListComp, ast.comprehension, ast.JoinedStr, ast.FormattedValue,
    ast.Lambda, ast.keyword, ast.expr_context, ast.operator, ast.unaryop, ast.boolop, ast.cmpop,
)
OWN_NAMES = set(
    "len range enumerate zip min max sum abs sorted reversed int str bool list tuple dict isinstance ord repr any all "
    "divmod Exception ValueError KeyError IndexError LookupError".split())
METHODS = set(
    "append clear copy count endswith extend find get index insert isalnum isalpha isdigit islower isspace isupper "
    "items join keys ljust lower lstrip partition pop remove replace reverse rfind rjust rpartition rsplit rstrip "
    "setdefault split splitlines startswith strip update upper values zfill bit_length".split())
WORDS = ("type typing typing_extensions enum Enum IntEnum StrEnum Flag IntFlag Generic Protocol ABC ABCMeta "
         "namedtuple NamedTuple TypedDict TYPE_CHECKING abstractmethod").split()
KEYWORDS = {"sorted": ("key", "reverse"), "min": ("key", "default"), "max": ("key", "default"), "sum": ("start",),
            "enumerate": ("start",), "zip": ("strict",)}
NEVER = ("register mro elements open input version_info with_traceback add_note").split()


def nodes(kind):
    return [(name, node) for name, tree in TREES.items() for node in ast.walk(tree) if isinstance(node, kind)]


def bound_names():
    """Every name that the package gives to something."""
    for name, node in nodes((ast.FunctionDef, ast.ClassDef)):
        yield name, node.name
    for name, node in nodes(ast.arg):
        yield name, node.arg
    for name, node in nodes(ast.Name):
        if isinstance(node.ctx, ast.Store):
            yield name, node.id
    for name, node in nodes(ast.Attribute):
        if isinstance(node.ctx, ast.Store):
            yield name, node.attr


class Files(unittest.TestCase):
    def test_only_plain_files_lie_in_the_package(self):
        names = [path.name for path in PACKAGE.iterdir() if path.name != "__pycache__"]
        for name in names:
            self.assertRegex(name, r"^(__init__|[a-z][a-z0-9_]*)\.py$")
            self.assertNotIn(name[:-3], dir(builtins))
        self.assertIn("__init__.py", names)

    def test_sizes_and_signs(self):
        for path in FILES:
            rows = path.read_text(encoding="utf-8").split("\n")
            self.assertLessEqual(len(rows), 400, path.name)
            for row in rows:
                self.assertRegex(row, r"^[ -~]{0,120}$", path.name)
        for name, node in nodes(ast.FunctionDef):
            self.assertLessEqual(node.end_lineno - node.lineno + 1, 40, (name, node.name))

    def test_words_that_stand_nowhere(self):
        for path in FILES:
            text = path.read_text(encoding="utf-8")
            found = [word for word in WORDS if re.search(rf"\b{word}\b", text)]
            found += [word for word in ("dataclass", "overload", "contextmanager") if word in text]
            self.assertEqual(found, [], path.name)


class Code(unittest.TestCase):
    def test_only_these_forms(self):
        for name, node in nodes(ast.AST):
            self.assertIsInstance(node, NODES, (name, getattr(node, "lineno", 0)))
        for name, node in nodes(ast.operator):
            self.assertNotIsInstance(node, (ast.Div, ast.MatMult), name)
        for name, node in nodes(ast.Constant):
            self.assertIsInstance(node.value, (int, str, type(None)), name)

    def test_functions_and_classes(self):
        for name, node in nodes(ast.arguments):
            self.assertEqual((node.vararg, node.kwarg, node.kwonlyargs, node.posonlyargs), (None, None, [], []), name)
        for name, node in nodes((ast.FunctionDef, ast.ClassDef)):
            self.assertEqual(node.decorator_list, [], name)
        for name, node in nodes(ast.Assign):
            self.assertEqual([len(node.targets), isinstance(node.targets[0], ast.Tuple)], [1, False], name)
        for name, node in nodes((ast.For, ast.While)):
            self.assertEqual(node.orelse, [], name)
        for name, node in nodes(ast.ListComp):
            self.assertEqual([len(node.generators), len(node.generators[0].ifs) <= 1], [1, True], name)

    def test_names(self):
        for name, bound in bound_names():
            if bound != "__init__":
                self.assertRegex(bound, r"^[A-Za-z][A-Za-z0-9_]*$", name)
            self.assertNotIn(bound, dir(builtins), name)
            self.assertNotIn(bound, NEVER, name)
        for name, node in nodes(ast.Name):
            if node.id in dir(builtins):
                self.assertIn(node.id, OWN_NAMES, name)

    def test_no_local_is_called_like_an_import_or_a_class_of_its_file(self):
        for name, tree in TREES.items():
            above = {one.name for node in tree.body if isinstance(node, ast.ImportFrom) for one in node.names}
            above |= {node.module.split(".")[-1] for node in tree.body if isinstance(node, ast.ImportFrom)}
            above |= {node.name for node in tree.body if isinstance(node, (ast.FunctionDef, ast.ClassDef))}
            for node in ast.walk(tree):
                if isinstance(node, ast.arg):
                    self.assertNotIn(node.arg, above, name)
                if isinstance(node, ast.Name) and isinstance(node.ctx, ast.Store):
                    self.assertNotIn(node.id, above, name)

    def test_own_methods_and_values_are_called_like_none_of_pythons_own(self):
        taken = {one for kind in (str, int, list, tuple, dict, set, frozenset, bytes) for one in dir(kind)}
        own = {node.name for name, one in nodes(ast.ClassDef) for node in one.body if isinstance(node, ast.FunctionDef)}
        own |= {node.attr for name, node in nodes(ast.Attribute) if isinstance(node.ctx, ast.Store)}
        self.assertEqual((own - {"__init__"}) & taken, set())

    def test_methods_are_own_or_listed(self):
        own = {node.name for name, node in nodes(ast.FunctionDef)}
        values = {node.attr for name, node in nodes(ast.Attribute) if isinstance(node.ctx, ast.Store)}
        self.assertEqual(own & values, set())
        for name, node in nodes(ast.Attribute):
            self.assertIn(node.attr, METHODS | own | values, name)

    def test_keywords_stand_at_these_names_alone(self):
        for name, node in nodes(ast.Call):
            for one in node.keywords:
                self.assertIsInstance(node.func, ast.Name, name)
                self.assertIn(one.arg, KEYWORDS.get(node.func.id, ()), name)

    def test_is_stands_beside_none_alone(self):
        for name, node in nodes(ast.Compare):
            for sign, other in zip(node.ops, node.comparators):
                if isinstance(sign, (ast.Is, ast.IsNot)):
                    self.assertIsInstance(other, ast.Constant, name)
                    self.assertIsNone(other.value, name)


class Tops(unittest.TestCase):
    def test_the_top_of_a_file(self):
        for name, tree in TREES.items():
            self.assertIsNotNone(ast.get_docstring(tree), name)
            for node in tree.body[1:]:
                self.assertIsInstance(node, (ast.ImportFrom, ast.FunctionDef, ast.ClassDef, ast.Assign), name)
            bound = [target.id for node in tree.body if isinstance(node, ast.Assign) for target in node.targets]
            bound += [node.name for node in tree.body if isinstance(node, (ast.FunctionDef, ast.ClassDef))]
            bound += [one.name for node in tree.body if isinstance(node, ast.ImportFrom) for one in node.names]
            self.assertEqual(len(bound), len(set(bound)), name)

    def test_imports_come_from_where_the_name_is_defined_and_make_no_ring(self):
        drawn = {name[:-3]: [] for name in TREES}
        for name, node in nodes(ast.ImportFrom):
            self.assertEqual((node.level, node.module.split(".")[0]), (0, "bendlorries"), name)
            source = node.module.split(".")[1]
            drawn[name[:-3]].append(source)
            defined = {one.name for one in TREES[source + ".py"].body
                       if isinstance(one, (ast.FunctionDef, ast.ClassDef))}
            defined |= {one.targets[0].id for one in TREES[source + ".py"].body if isinstance(one, ast.Assign)}
            for one in node.names:
                self.assertIn(one.name, defined, name)
                self.assertIsNone(one.asname, name)
        while drawn:
            free = [name for name, sources in drawn.items() if not set(sources) & set(drawn)]
            self.assertNotEqual(free, [], "files that draw from one another")
            for name in free:
                del drawn[name]


if __name__ == "__main__":
    unittest.main()
