"""That the package keeps to its small part of Python, as far as a plain look at the files can tell."""

import ast
import builtins
import os
import re
import unittest

ROOT = os.path.join(os.path.dirname(os.path.abspath(__file__)), os.pardir, "restingnets")

STATEMENTS = (
    ast.Module, ast.FunctionDef, ast.ClassDef, ast.ImportFrom, ast.Assign, ast.AugAssign, ast.If, ast.While,
    ast.For, ast.Return, ast.Break, ast.Continue, ast.Pass, ast.Raise, ast.Try, ast.ExceptHandler, ast.Expr,
)
EXPRESSIONS = (
    ast.Constant, ast.List, ast.Tuple, ast.Dict, ast.BinOp, ast.UnaryOp, ast.BoolOp, ast.Compare, ast.IfExp,
    ast.Call, ast.Attribute, ast.Subscript, ast.Slice, ast.ListComp, ast.comprehension, ast.Lambda, ast.Name,
    ast.JoinedStr, ast.FormattedValue, ast.arguments, ast.arg, ast.keyword, ast.alias,
)
SIGNS = (ast.operator, ast.unaryop, ast.boolop, ast.cmpop, ast.expr_context)
OWN_NAMES = (
    "len range enumerate zip min max sum abs sorted reversed int str bool list tuple dict set frozenset isinstance "
    "ord repr any all divmod Exception ValueError TypeError KeyError IndexError LookupError ZeroDivisionError "
    "ArithmeticError OverflowError RuntimeError NotImplementedError AttributeError StopIteration"
).split()
METHODS = (
    "append clear copy count endswith extend find get index insert isalnum isalpha isdigit islower isspace isupper "
    "items join keys ljust lower lstrip partition pop remove replace reverse rfind rjust rpartition rsplit rstrip "
    "setdefault split splitlines startswith strip update upper values zfill bit_length"
).split()
UNUSED_NAMES = "register mro elements open input version_info with_traceback add_note format format_map".split()
UNUSED_WORDS = re.compile(
    r"\b(type|typing|typing_extensions|enum|Enum|IntEnum|StrEnum|Flag|IntFlag|Generic|Protocol|ABC|ABCMeta"
    r"|namedtuple|NamedTuple|TypedDict|TYPE_CHECKING|abstractmethod)\b|dataclass|overload|contextmanager"
)


def package_files():
    names = sorted(name for name in os.listdir(ROOT) if name != "__pycache__")
    texts = {}
    for name in names:
        with open(os.path.join(ROOT, name), encoding="utf-8", newline="") as file:
            texts[name] = file.read()
    return texts


def bound_names(tree):
    """Every name that a file binds anywhere."""
    names = []
    for node in ast.walk(tree):
        if isinstance(node, ast.Name) and isinstance(node.ctx, ast.Store):
            names.append(node.id)
        elif isinstance(node, (ast.FunctionDef, ast.ClassDef)):
            names.append(node.name)
        elif isinstance(node, ast.arg):
            names.append(node.arg)
        elif isinstance(node, ast.alias):
            names.append(node.name)
    return names


class Form(unittest.TestCase):
    def setUp(self):
        self.texts = package_files()
        self.trees = {name: ast.parse(text) for name, text in self.texts.items()}

    def nodes(self, *kinds):
        for name, tree in self.trees.items():
            for node in ast.walk(tree):
                if isinstance(node, kinds or ast.AST):
                    yield name, node

    def test_files(self):
        self.assertIn("__init__.py", self.texts)
        self.assertIn("nets.py", self.texts)
        for name in self.texts:
            self.assertRegex(name, r"\A([a-z][a-z0-9_]*|__init__|__main__)\.py\Z")
            self.assertNotIn(name[:-3], dir(builtins))

    def test_size_and_signs(self):
        for name, text in self.texts.items():
            self.assertLessEqual(len(text.splitlines()), 400, name)
            self.assertLessEqual(max(len(line) for line in text.split("\n")), 120, name)
            self.assertRegex(text, r"\A[ -~\n]*\Z", name)
            self.assertIsNone(UNUSED_WORDS.search(text), name)
        for name, node in self.nodes(ast.FunctionDef):
            self.assertLessEqual(node.end_lineno - node.lineno + 1, 40, f"{name} {node.name}")

    def test_only_the_packages_own_modules_are_imported(self):
        for name, node in self.nodes(ast.Import, ast.ImportFrom):
            self.assertIsInstance(node, ast.ImportFrom, name)
            self.assertEqual(node.level, 0, name)
            self.assertTrue(node.module.startswith("restingnets."), name)
            defined = bound_names(self.trees[node.module.split(".")[1] + ".py"])
            for alias in node.names:
                self.assertIn(alias.name, defined, name)

    def test_statements_and_expressions(self):
        for name, node in self.nodes():
            where = f"{name} {getattr(node, 'lineno', '')}"
            self.assertIsInstance(node, STATEMENTS + EXPRESSIONS + SIGNS, where)
            self.assertNotIsInstance(node, (ast.Div, ast.MatMult), where)
            self.assertFalse(getattr(node, "decorator_list", []), where)
            if isinstance(node, (ast.For, ast.While)):
                self.assertFalse(node.orelse, where)
            if isinstance(node, ast.Assign):
                self.assertEqual(len(node.targets), 1, where)
            if isinstance(node, ast.Constant):
                self.assertIn(type(node.value), (int, str, bool, type(None)), where)
            if isinstance(node, ast.ListComp):
                self.assertEqual(len(node.generators), 1, where)
                self.assertLessEqual(len(node.generators[0].ifs), 1, where)

    def test_the_top_of_a_file_does_nothing(self):
        for name, tree in self.trees.items():
            for node in tree.body[1:]:
                self.assertIsInstance(node, (ast.ImportFrom, ast.FunctionDef, ast.ClassDef, ast.Assign), name)
                if isinstance(node, ast.Assign):
                    ast.literal_eval(node.value)
            top = [node.name for node in tree.body if isinstance(node, (ast.FunctionDef, ast.ClassDef))]
            top += [node.targets[0].id for node in tree.body if isinstance(node, ast.Assign)]
            self.assertEqual(len(top), len(set(top)), name)

    def test_names(self):
        for name, tree in self.trees.items():
            bound = bound_names(tree)
            for word in bound:
                self.assertRegex(word, r"\A([A-Za-z][A-Za-z0-9_]*|__init__)\Z", name)
                self.assertNotIn(word, dir(builtins), name)
                self.assertNotIn(word, UNUSED_NAMES, name)
            for node in ast.walk(tree):
                if isinstance(node, ast.Name) and node.id not in bound:
                    self.assertIn(node.id, OWN_NAMES, name)

    def test_locals_are_not_called_like_what_stands_at_the_top(self):
        for name, tree in self.trees.items():
            top = [node.name for node in tree.body if isinstance(node, (ast.FunctionDef, ast.ClassDef))]
            top += [alias.name for node in tree.body if isinstance(node, ast.ImportFrom) for alias in node.names]
            for node in ast.walk(tree):
                if isinstance(node, ast.Name) and isinstance(node.ctx, ast.Store):
                    self.assertNotIn(node.id, top, name)
                if isinstance(node, ast.arg):
                    self.assertNotIn(node.arg, top, name)

    def test_no_files_draw_from_one_another(self):
        drawn = {
            name[:-3]: [node.module.split(".")[1] for node in tree.body if isinstance(node, ast.ImportFrom)]
            for name, tree in self.trees.items()
        }
        left = dict(drawn)
        while left:
            free = [name for name in left if not any(other in left for other in left[name])]
            self.assertTrue(free, left)
            left = {name: others for name, others in left.items() if name not in free}

    def test_own_methods_are_not_called_like_those_of_pythons_values(self):
        kept = [node.attr for name, node in self.nodes(ast.Attribute) if isinstance(node.ctx, ast.Store)]
        for name, node in self.nodes(ast.ClassDef):
            for method in node.body:
                if isinstance(method, ast.FunctionDef) and method.name != "__init__":
                    self.assertNotIn(method.name, kept, name)
                    for value in (0, "", [], (), {}, set(), b""):
                        self.assertFalse(hasattr(value, method.name), f"{name} {method.name}")

    def test_methods_and_values(self):
        own = [node.name for name, node in self.nodes(ast.FunctionDef)]
        kept = [node.attr for name, node in self.nodes(ast.Attribute) if isinstance(node.ctx, ast.Store)]
        for name, node in self.nodes(ast.Attribute):
            self.assertIn(node.attr, METHODS + own + kept, name)
            self.assertNotIn(node.attr, UNUSED_NAMES, name)
        for word in kept:
            for value in (0, "", [], (), {}, set(), b""):
                self.assertFalse(hasattr(value, word), word)


if __name__ == "__main__":
    unittest.main()
