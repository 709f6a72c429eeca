"""The package keeps to the small part of Python that it is written in (the rules that can be seen in its text)."""

import ast
import builtins
import pathlib
import re
import unittest

PACKAGE = pathlib.Path(__file__).resolve().parent.parent / "netsunfolded"

STATEMENTS = (
    ast.FunctionDef, ast.ClassDef, ast.ImportFrom, ast.Assign, ast.AugAssign, ast.If, ast.While, ast.For, ast.Return,
    ast.Break, ast.Continue, ast.Pass, ast.Raise, ast.Try, ast.Expr,
)
EXPRESSIONS = (
    ast.Constant, ast.List, ast.Tuple, ast.Dict, ast.BinOp, ast.UnaryOp, ast.BoolOp, ast.Compare, ast.IfExp, ast.Call,
    ast.Attribute, ast.Subscript, ast.Slice, ast.ListComp, ast.JoinedStr, ast.FormattedValue, ast.Name, ast.Lambda,
)
OWN_NAMES_OF_PYTHON = """
    len range enumerate zip min max sum abs sorted reversed int str bool list tuple dict set frozenset isinstance ord
    repr any all divmod Exception ValueError TypeError KeyError IndexError LookupError ZeroDivisionError
    ArithmeticError OverflowError RuntimeError NotImplementedError AttributeError StopIteration
""".split()
METHODS = """
    append clear copy count endswith extend find get index insert isalnum isalpha isdigit islower isspace isupper
    items join keys ljust lower lstrip partition pop remove replace reverse rfind rjust rpartition rsplit rstrip
    setdefault split splitlines startswith strip update upper values zfill bit_length
""".split()
WORDS = re.compile(
    r"\b(type|typing|typing_extensions|enum|Enum|IntEnum|StrEnum|Flag|IntFlag|Generic|Protocol|ABC|ABCMeta|namedtuple"
    r"|NamedTuple|TypedDict|TYPE_CHECKING|abstractmethod)\b|dataclass|overload|contextmanager"
)
UNUSED = """
    register mro elements open input version_info with_traceback add_note attrgetter breakpoint builtins compile
    copyright credits delattr dir eval exec exit gc getattr globals hasattr help id importlib license locals
    methodcaller os quit setattr super type vars sys format format_map chr print
""".split()


def bound_names(tree):
    """Every name that is given a value, a def or a class, and every parameter."""
    names = []
    for node in ast.walk(tree):
        if isinstance(node, ast.Name) and isinstance(node.ctx, ast.Store):
            names.append(node.id)
        if isinstance(node, ast.arg):
            names.append(node.arg)
        if isinstance(node, (ast.FunctionDef, ast.ClassDef)):
            names.append(node.name)
    return names


def is_called(node, *names):
    return isinstance(node, ast.Call) and isinstance(node.func, ast.Name) and node.func.id in names


def is_method(node, *names):
    return isinstance(node, ast.Call) and isinstance(node.func, ast.Attribute) and node.func.attr in names


def is_of_sets(node):
    """Whether it is sets with an operator between."""
    return isinstance(node, ast.BinOp) and is_called(node.left, "set") and is_called(node.right, "set")


class Language(unittest.TestCase):
    def setUp(self):
        self.files = sorted(path for path in PACKAGE.rglob("*") if "__pycache__" not in path.parts)
        self.texts = {path: path.read_text(encoding="utf-8") for path in self.files}
        self.trees = {path: ast.parse(text) for path, text in self.texts.items()}

    def nodes(self, *kinds):
        for path, tree in self.trees.items():
            for node in ast.walk(tree):
                if isinstance(node, kinds):
                    yield f"{path.name}:{getattr(node, 'lineno', 0)}", node

    def own_methods(self):
        return {
            item.name for where, node in self.nodes(ast.ClassDef) for item in node.body
            if isinstance(item, ast.FunctionDef)
        }

    def test_files(self):
        self.assertIn(PACKAGE / "__init__.py", self.files)
        for path in self.files:
            self.assertRegex(path.name, r"^[a-z_][a-z0-9_]*\.py$")
            self.assertNotIn(path.stem, vars(builtins))
            self.assertFalse(path.stem.startswith(("test", "site", "conftest")), path)

    def test_signs_and_sizes(self):
        for path, text in self.texts.items():
            self.assertTrue(all(sign == "\n" or " " <= sign <= "~" for sign in text), path)
            rows = text.split("\n")
            self.assertLessEqual(len(rows), 399, path)
            self.assertTrue(all(len(row) <= 120 for row in rows), path)
            self.assertIsNone(WORDS.search(text), path)
        for where, node in self.nodes(ast.FunctionDef):
            self.assertLessEqual(node.end_lineno - node.lineno + 1, 40, where)

    def test_imports(self):
        for where, node in self.nodes(ast.Import, ast.ImportFrom):
            self.assertIsInstance(node, ast.ImportFrom, where)
            self.assertEqual(node.level, 0, where)
            self.assertTrue(node.module.startswith("netsunfolded."), where)
            self.assertNotIn("*", [name.name for name in node.names], where)

    def test_top_of_a_file(self):
        for path, tree in self.trees.items():
            for node in tree.body[1:]:
                self.assertIsInstance(node, (ast.ImportFrom, ast.FunctionDef, ast.ClassDef, ast.Assign), path)
            self.assertIsNotNone(ast.get_docstring(tree), path)

    def test_statements_and_expressions(self):
        for where, node in self.nodes(ast.stmt):
            self.assertIsInstance(node, STATEMENTS, where)
        for where, node in self.nodes(ast.expr):
            self.assertIsInstance(node, EXPRESSIONS, where)
        for where, node in self.nodes(ast.Constant):
            self.assertNotIsInstance(node.value, (float, complex, bytes), where)
        self.assertEqual(list(self.nodes(ast.Div)), [])
        for where, node in self.nodes(ast.Assign):
            self.assertEqual(len(node.targets), 1, where)
            self.assertIsInstance(node.targets[0], (ast.Name, ast.Attribute, ast.Subscript), where)
        for where, node in self.nodes(ast.For, ast.While):
            self.assertEqual(node.orelse, [], where)
        for where, node in self.nodes(ast.ListComp):
            self.assertEqual(len(node.generators), 1, where)
            self.assertLessEqual(len(node.generators[0].ifs), 1, where)

    def test_is_stands_beside_none_true_and_false_alone(self):
        for where, node in self.nodes(ast.Compare):
            if isinstance(node.ops[0], (ast.Is, ast.IsNot)):
                self.assertIsInstance(node.comparators[0], ast.Constant, where)

    def test_functions_and_classes(self):
        for where, node in self.nodes(ast.FunctionDef):
            given = node.args
            self.assertEqual((node.decorator_list, given.vararg, given.kwarg, given.kwonlyargs), ([], None, None, []))
            self.assertTrue(not node.name.startswith("_") or node.name == "__init__", where)
        for where, node in self.nodes(ast.ClassDef):
            self.assertEqual(node.decorator_list, [], where)
            self.assertLessEqual(len(node.bases), 1, where)

    def test_names(self):
        for path, tree in self.trees.items():
            bound = bound_names(tree)
            imported = [
                name.name for node in tree.body if isinstance(node, ast.ImportFrom) for name in node.names
            ]
            for name in bound:
                self.assertTrue(name == "__init__" or re.fullmatch(r"[A-Za-z][A-Za-z0-9_]*", name), (path, name))
                self.assertNotIn(name, vars(builtins), path)
                self.assertNotIn(name, imported, path)
                self.assertNotIn(name, UNUSED, path)
            for node in ast.walk(tree):
                if isinstance(node, ast.Name):
                    self.assertIn(node.id, OWN_NAMES_OF_PYTHON + bound + imported, path)

    def test_methods_and_values(self):
        own = self.own_methods()
        values = {
            node.attr for where, node in self.nodes(ast.Attribute) if isinstance(node.ctx, ast.Store)
        }
        self.assertEqual(own & values, set())
        for where, node in self.nodes(ast.Attribute):
            self.assertNotIn(node.attr, UNUSED, where)
            self.assertIn(node.attr, sorted(own | values) + METHODS, where)
        for name in own | values:
            for kind in (int, str, list, dict, set, bytes, tuple):
                self.assertFalse(hasattr(kind, name) and not name.startswith("__"), name)

    def parents(self):
        """Each node's parent, with where it stands."""
        for where, node in self.nodes(ast.AST):
            for child in ast.iter_child_nodes(node):
                yield where, node, child

    def test_sets_are_not_kept(self):
        self.assertEqual(list(self.nodes(ast.Set)), [])
        for where, parent, node in self.parents():
            if is_called(node, "set", "frozenset") or is_of_sets(node):
                beside = isinstance(parent, ast.Compare) and isinstance(parent.ops[0], (ast.In, ast.NotIn))
                within = is_called(parent, "sorted", "len") and parent.keywords == []
                self.assertTrue(beside or within or is_of_sets(parent), where)

    def test_walked_at_once(self):
        walkers = "list tuple dict sorted sum any all enumerate zip min max".split()
        for where, parent, node in self.parents():
            if is_called(node, "zip", "enumerate", "reversed", "range") or is_method(node, "items", "keys", "values"):
                walked = isinstance(parent, (ast.For, ast.comprehension)) and parent.iter == node
                self.assertTrue(walked or is_called(parent, *walkers) and parent.args[0] == node, where)

    def test_what_a_loop_walks_is_not_changed(self):
        for where, loop in self.nodes(ast.For):
            walked = {ast.unparse(node) for node in ast.walk(loop.iter) if isinstance(node, (ast.Name, ast.Attribute))}
            for node in ast.walk(loop):
                if is_method(node, "append", "clear", "extend", "insert", "pop", "remove", "reverse", "update"):
                    self.assertNotIn(ast.unparse(node.func.value), walked, where)
                if isinstance(node, ast.Subscript) and isinstance(node.ctx, ast.Store):
                    self.assertNotIn(ast.unparse(node.value), walked, where)

    def test_keywords(self):
        allowed = {"sorted": ["key", "reverse"], "min": ["key", "default"], "max": ["key", "default"],
                   "sum": ["start"], "enumerate": ["start"], "zip": ["strict"]}
        for where, node in self.nodes(ast.Call):
            for keyword in node.keywords:
                self.assertIn(keyword.arg, allowed.get(getattr(node.func, "id", None), []), where)
                if keyword.arg == "key" and not isinstance(keyword.value, ast.Lambda):
                    self.assertIn(ast.unparse(keyword.value), "len int str abs sum min max tuple".split(), where)

    def test_own_names_of_python_are_called_not_kept(self):
        for where, parent, node in self.parents():
            if isinstance(node, ast.Name) and node.id in OWN_NAMES_OF_PYTHON and node.id[0].islower():
                called = isinstance(parent, ast.Call) and parent.func == node
                self.assertTrue(called or isinstance(parent, ast.keyword), where)

    def test_numbers_and_texts(self):
        self.assertEqual(list(self.nodes(ast.Pow)), [])
        for where, node in self.nodes(ast.Constant):
            if isinstance(node.value, str):
                self.assertNotIn("%", node.value, where)

    def test_no_annotations_and_plain_defaults(self):
        self.assertEqual([node for where, node in self.nodes(ast.arg) if node.annotation], [])
        for where, node in self.nodes(ast.FunctionDef):
            self.assertIsNone(node.returns, where)
            self.assertEqual(node.args.defaults, [], where)

    def test_each_name_once_at_the_top(self):
        for path, tree in self.trees.items():
            names = [name.name for node in tree.body if isinstance(node, ast.ImportFrom) for name in node.names]
            names += [node.name for node in tree.body if isinstance(node, (ast.FunctionDef, ast.ClassDef))]
            names += [node.targets[0].id for node in tree.body if isinstance(node, ast.Assign)]
            self.assertEqual(len(names), len(set(names)), path)
            for node in tree.body:
                if isinstance(node, ast.Assign):
                    self.assertIsInstance(ast.literal_eval(node.value), int, path)
        for where, node in self.nodes(ast.ClassDef):
            names = [item.name for item in node.body if isinstance(item, ast.FunctionDef)]
            self.assertEqual(len(names), len(set(names)), where)

    def test_files_don_t_draw_from_one_another(self):
        drawn = {
            path.stem: {node.module.split(".")[1] for node in tree.body if isinstance(node, ast.ImportFrom)}
            for path, tree in self.trees.items()
        }
        while drawn:
            free = [name for name, others in drawn.items() if not others & set(drawn)]
            self.assertNotEqual(free, [], drawn)
            drawn = {name: others for name, others in drawn.items() if name not in free}

    def test_names_come_from_the_file_that_defines_them(self):
        for where, node in self.nodes(ast.ImportFrom):
            tree = self.trees[PACKAGE / (node.module.split(".")[1] + ".py")]
            defined = [item.name for item in tree.body if isinstance(item, (ast.FunctionDef, ast.ClassDef))]
            defined += [item.targets[0].id for item in tree.body if isinstance(item, ast.Assign)]
            for name in node.names:
                self.assertIn(name.name, defined, where)
                self.assertIsNone(name.asname, where)

    def test_the_interface(self):
        tree = self.trees[PACKAGE / "events.py"]
        found = [node for node in tree.body if isinstance(node, ast.FunctionDef) and node.name == "answers"]
        self.assertEqual([[arg.arg for arg in node.args.args] for node in found], [["calls"]])
        self.assertEqual(found[0].args.defaults, [])


if __name__ == "__main__":
    unittest.main()
