"""The form of the code: those rules of LANGUAGE.md that can be seen row by row.

Only what the package uses is let by here; a later file that needs more of the language adds it to these lists.
"""

import ast
import pathlib
import re
import unittest

PACKAGE = pathlib.Path(__file__).parent.parent / "staffhome"

# The order in which the modules stand: each uses only those ahead of it.
MODULES = [
    "errors", "forms", "lines", "linetexts", "standings", "moves", "standingtexts", "fits", "openruns", "held", "shut",
    "verdicts", "plans", "onetrain", "rounds", "firstplaces", "whatif", "house", "drivers", "logs", "journals", "days",
    "kept", "desk",
]

STATEMENTS = (
    ast.FunctionDef, ast.ClassDef, ast.ImportFrom, ast.Assign, ast.AugAssign, ast.If, ast.While, ast.For, ast.Return,
    ast.Break, ast.Continue, ast.Pass, ast.Raise, ast.Try, ast.Expr,
)

EXPRESSIONS = (
    ast.Constant, ast.Name, ast.Attribute, ast.Subscript, ast.Slice, ast.Call, ast.Tuple, ast.List, ast.Dict,
    ast.ListComp, ast.DictComp, ast.BinOp, ast.UnaryOp, ast.BoolOp, ast.Compare, ast.IfExp,
)

OPERATORS = (
    ast.Add, ast.Sub, ast.Mult, ast.FloorDiv, ast.Mod, ast.USub, ast.Not, ast.And, ast.Or, ast.Eq, ast.NotEq, ast.Lt, ast.LtE,
    ast.Gt, ast.GtE, ast.Is, ast.IsNot, ast.In, ast.NotIn,
)

OTHERS = (
    ast.Module, ast.arguments, ast.arg, ast.alias, ast.comprehension, ast.ExceptHandler, ast.Load, ast.Store,
)

BUILTINS = {
    "len", "range", "enumerate", "zip", "min", "max", "sum", "abs", "sorted", "reversed", "int", "str", "bool", "list",
    "tuple", "dict", "isinstance", "ord", "repr", "any", "all", "divmod", "ValueError",
}

METHODS = {
    "append", "copy", "count", "endswith", "extend", "find", "get", "index", "insert", "items", "join", "keys", "pop",
    "remove", "replace", "reverse", "rfind", "setdefault", "split", "startswith", "strip", "update", "values",
}

BARRED_NAMES = set(dir(__builtins__) if not isinstance(__builtins__, dict) else __builtins__) | {
    "register", "mro", "elements", "law", "version_info", "attrgetter", "builtins", "gc", "importlib", "methodcaller",
    "os", "sys",
}

BARRED_WORDS = (
    "type|typing|typing_extensions|enum|Enum|IntEnum|StrEnum|Flag|IntFlag|Generic|Protocol|ABC|ABCMeta|namedtuple|"
    "NamedTuple|TypedDict|TYPE_CHECKING|abstractmethod|_wall|_WallAttr"
)


def sources():
    return {path.name: path.read_text() for path in sorted(PACKAGE.glob("*.py"))}


def trees():
    return {name: ast.parse(text) for name, text in sources().items()}


def nodes(kind):
    return [(name, node) for name, tree in trees().items() for node in ast.walk(tree) if isinstance(node, kind)]


class Files(unittest.TestCase):
    def test_nothing_but_modules(self):
        names = [path.name for path in PACKAGE.iterdir() if path.name != "__pycache__"]
        self.assertLessEqual(set(names), {"__init__.py"} | {f"{module}.py" for module in MODULES})

    def test_signs_and_sizes(self):
        for name, text in sources().items():
            rows = text.split("\n")
            self.assertLessEqual(len(rows), 399, name)
            for row in rows:
                self.assertLessEqual(len(row), 120, (name, row))
                self.assertTrue(all(" " <= sign <= "~" for sign in row), (name, row))

    def test_functions_are_short_and_plain(self):
        for name, node in nodes(ast.FunctionDef):
            self.assertLessEqual(node.end_lineno - node.lineno + 1, 40, (name, node.name))
            self.assertIsNone(node.returns)
            self.assertEqual(node.decorator_list, [])
            self.assertFalse([row for row in ast.walk(node) if isinstance(row, ast.FunctionDef) and row is not node])
            self.assertFalse([row for row in node.args.args if row.annotation], (name, node.name))

    def test_words(self):
        for name, text in sources().items():
            self.assertIsNone(re.search(rf"\b({BARRED_WORDS})\b", text), name)
            self.assertIsNone(re.search("dataclass|overload|contextmanager|import \\*", text), name)


class Code(unittest.TestCase):
    def test_only_these_kinds(self):
        allowed = STATEMENTS + EXPRESSIONS + OPERATORS + OTHERS
        for name, node in nodes(ast.AST):
            self.assertIsInstance(node, allowed, (name, getattr(node, "lineno", None)))

    def test_module_level(self):
        for name, tree in trees().items():
            seen = []
            for row in tree.body:
                if isinstance(row, ast.Expr):
                    self.assertIs(row, tree.body[0], name)
                    self.assertIsInstance(row.value.value, str)
                elif isinstance(row, ast.Assign):
                    self.assertTrue(self.is_table(row.value, seen) or self.is_plain(row.value), name)
                    self.assertEqual([len(row.targets), row.targets[0].__class__], [1, ast.Name], name)
                    seen.append(row.targets[0].id)
                elif isinstance(row, ast.ImportFrom):
                    seen.extend(alias.name for alias in row.names)
                else:
                    self.assertIsInstance(row, (ast.FunctionDef, ast.ClassDef), name)
                    seen.append(row.name)
            self.assertEqual(len(seen), len(set(seen)), name)

    def is_plain(self, node):
        worth = ast.literal_eval(node)
        parts = worth if isinstance(worth, (tuple, list)) else list(worth.values()) if isinstance(worth, dict) else []
        return not any(isinstance(part, (list, dict)) for part in parts)

    def is_table(self, node, seen):
        """Whether a dict has strings as keys, and functions that were defined above it."""
        if not isinstance(node, ast.Dict) or not all(isinstance(worth, ast.Name) for worth in node.values):
            return False
        return all(worth.id in seen for worth in node.values) and all(isinstance(key.value, str) for key in node.keys)

    def test_imports(self):
        defined = {name: {getattr(row, "name", None) for row in tree.body} for name, tree in trees().items()}
        for name, tree in trees().items():
            defined[name] |= {row.targets[0].id for row in tree.body if isinstance(row, ast.Assign)}
        for name, node in nodes(ast.ImportFrom):
            package, module = node.module.split(".")
            self.assertEqual([package, node.level], ["staffhome", 0], name)
            self.assertLess(MODULES.index(module), MODULES.index(name[:-3]), (name, module))
            for alias in node.names:
                self.assertIsNone(alias.asname)
                self.assertIn(alias.name, defined[f"{module}.py"], name)

    def test_each_name_is_used(self):
        for name, tree in trees().items():
            loaded = {node.id for node in ast.walk(tree) if isinstance(node, ast.Name) and isinstance(node.ctx, ast.Load)}
            for row in tree.body:
                if isinstance(row, ast.ImportFrom):
                    self.assertLessEqual({alias.name for alias in row.names}, loaded, name)

    def test_names(self):
        for name, tree in trees().items():
            fixed = {alias.name for row in tree.body if isinstance(row, ast.ImportFrom) for alias in row.names}
            fixed |= {row.name for row in tree.body if isinstance(row, ast.ClassDef)}
            bound = [node.arg for node in ast.walk(tree) if isinstance(node, ast.arg)]
            bound += [node.id for node in ast.walk(tree) if isinstance(node, ast.Name) and isinstance(node.ctx, ast.Store)]
            for word in bound:
                self.assertNotIn(word, fixed, name)
            bound += [node.name for node in ast.walk(tree) if isinstance(node, (ast.FunctionDef, ast.ClassDef))]
            for word in bound:
                self.assertNotIn(word, BARRED_NAMES, name)
                self.assertRegex(word, "^([A-Za-z][A-Za-z0-9_]*|__init__|__eq__)$", name)

    def test_what_is_read_is_known(self):
        for name, tree in trees().items():
            known = {alias.name for row in tree.body if isinstance(row, ast.ImportFrom) for alias in row.names}
            known |= {node.name for node in ast.walk(tree) if isinstance(node, (ast.FunctionDef, ast.ClassDef))}
            known |= {node.arg for node in ast.walk(tree) if isinstance(node, ast.arg)}
            for node in ast.walk(tree):
                if isinstance(node, ast.Name) and isinstance(node.ctx, ast.Store):
                    known.add(node.id)
            for node in ast.walk(tree):
                if isinstance(node, ast.Name) and node.id not in known:
                    self.assertIn(node.id, BUILTINS, (name, node.lineno))

    def test_methods(self):
        own = {node.name for _, node in nodes(ast.FunctionDef)}
        for name, node in nodes(ast.Call):
            if isinstance(node.func, ast.Attribute):
                self.assertIn(node.func.attr, METHODS | own, (name, node.lineno))
                self.assertEqual(node.keywords, [], (name, node.lineno))

    def test_loops_iterate_over_nothing_kept(self):
        """zip, enumerate, items and their like are iterated on the spot."""
        lazy = ("zip", "enumerate", "reversed", "range", "items", "keys", "values")
        eager = ("list", "tuple", "dict", "sorted", "sum", "any", "all", "enumerate", "zip", "min", "max")
        for name, tree in trees().items():
            spots = [node.iter for node in ast.walk(tree) if isinstance(node, (ast.For, ast.comprehension))]
            calls = [node for node in ast.walk(tree) if isinstance(node, ast.Call)]
            for node in calls:
                if isinstance(node.func, ast.Name) and node.func.id in eager:
                    spots.extend(node.args[:1])
            for node in calls:
                word = node.func.attr if isinstance(node.func, ast.Attribute) else node.func.id
                if word in lazy:
                    self.assertTrue(any(node is spot for spot in spots), (name, node.lineno))

    def test_methods_and_attributes_of_a_class_are_unlike(self):
        for name, node in nodes(ast.ClassDef):
            methods = [row.name for row in node.body if isinstance(row, ast.FunctionDef)]
            self.assertEqual(len(methods), len(set(methods)), (name, node.name))
            stored = {row.attr for row in ast.walk(node) if isinstance(row, ast.Attribute) and isinstance(row.ctx, ast.Store)}
            self.assertFalse(stored & set(methods), (name, node.name))

    def test_errors(self):
        own = {node.name for _, node in nodes(ast.ClassDef)}
        for name, node in nodes(ast.Raise):
            self.assertIn(node.exc.func.id, own - {"StaffError"}, (name, node.lineno))
            self.assertIsNone(node.cause)
        for name, node in nodes(ast.ExceptHandler):
            self.assertIn(node.type.id, own, (name, node.lineno))

    def test_constants(self):
        for name, node in nodes(ast.Constant):
            self.assertIsInstance(node.value, (str, int, bool, type(None)), (name, node.lineno))
            if isinstance(node.value, str):
                self.assertNotIn("%", node.value, (name, node.lineno))

    def test_is_stands_beside_none_and_truths(self):
        for name, node in nodes(ast.Compare):
            for sign, right in zip(node.ops, node.comparators):
                if isinstance(sign, (ast.Is, ast.IsNot)):
                    self.assertIsInstance(right, ast.Constant, (name, node.lineno))

    def test_docstrings(self):
        for name, tree in trees().items():
            for node in ast.walk(tree):
                if isinstance(node, (ast.FunctionDef, ast.ClassDef)) and node.name not in ("__init__", "__eq__"):
                    self.assertIsNotNone(ast.get_docstring(node), (name, node.name))


if __name__ == "__main__":
    unittest.main()
