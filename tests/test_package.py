"""What the package's own files may look like: the rules on files, size, signs, words and imports."""

import ast
import builtins
import pathlib
import re
import unittest

PACKAGE = pathlib.Path(__file__).resolve().parent.parent / "strictpage"
OWN_NAMES = ("len", "range", "enumerate", "zip", "min", "max", "sum", "abs", "sorted", "reversed", "int", "str", "bool",
             "list", "tuple", "dict", "set", "isinstance", "ord", "any", "all", "divmod")
WORDS_NOT_USED = ("type", "typing", "typing_extensions", "enum", "Enum", "IntEnum", "StrEnum", "Flag", "IntFlag",
                  "Generic", "Protocol", "ABC", "ABCMeta", "namedtuple", "NamedTuple", "TypedDict", "TYPE_CHECKING",
                  "abstractmethod")
STATEMENTS = (ast.FunctionDef, ast.ClassDef, ast.Assign, ast.AugAssign, ast.If, ast.While, ast.For, ast.Return,
              ast.Break, ast.Continue, ast.Pass, ast.Raise, ast.Try, ast.Expr)
METHODS = ("append", "clear", "copy", "count", "endswith", "extend", "find", "get", "index", "insert", "items", "join",
           "keys", "pop", "remove", "replace", "reverse", "split", "startswith", "strip", "update", "values")
VALUES_OF_PYTHON_S = {name for kind in (str, int, list, tuple, dict, set, bytes) for name in dir(kind)}
NOT_USED = (ast.Div, ast.Set, ast.SetComp, ast.DictComp, ast.GeneratorExp, ast.NamedExpr, ast.Starred, ast.Lambda)


def package_files():
    return sorted(path for path in PACKAGE.rglob("*") if path.is_file() and "__pycache__" not in path.parts)


def bound_names(tree):
    for node in ast.walk(tree):
        if isinstance(node, (ast.FunctionDef, ast.ClassDef)):
            yield node.name
        elif isinstance(node, ast.arg):
            yield node.arg
        elif isinstance(node, (ast.Name, ast.Attribute)) and isinstance(node.ctx, ast.Store):
            yield node.id if isinstance(node, ast.Name) else node.attr


class Package(unittest.TestCase):
    def setUp(self):
        self.texts = {path: path.read_text("utf-8") for path in package_files()}
        self.trees = {path: ast.parse(text) for path, text in self.texts.items()}

    def nodes(self):
        return [(f"{path.name}:{getattr(node, 'lineno', 0)}", node)
                for path, tree in self.trees.items() for node in ast.walk(tree)]

    def test_files(self):
        self.assertIn(PACKAGE / "__init__.py", self.texts)
        for path in self.texts:
            self.assertRegex(path.name, r"^[a-z0-9_]+\.py$")

    def test_size(self):
        for path, text in self.texts.items():
            self.assertLessEqual(len(text.splitlines()), 400, path)
            self.assertLessEqual(max(len(line) for line in text.splitlines()), 120, path)
        for where, node in self.nodes():
            if isinstance(node, ast.FunctionDef):
                self.assertLessEqual(node.end_lineno - node.lineno + 1, 40, where)

    def test_signs_and_words(self):
        for path, text in self.texts.items():
            self.assertRegex(text, r"\A[ -~\n]*\Z", path)
            words = re.findall(r"\w+", text)
            self.assertEqual([word for word in words if word in WORDS_NOT_USED], [], path)
            self.assertNotRegex(text, "dataclass|overload|contextmanager")

    def test_nothing_is_imported(self):
        for where, node in self.nodes():
            self.assertNotIsInstance(node, (ast.Import, ast.ImportFrom), where)

    def test_statements_and_expressions(self):
        for where, node in self.nodes():
            if isinstance(node, ast.stmt):
                self.assertIsInstance(node, STATEMENTS, where)
            self.assertNotIsInstance(node, NOT_USED, where)
            if isinstance(node, ast.Constant):
                self.assertIn(type(node.value), (int, str, bool, type(None)), where)

    def test_names_that_are_read_are_the_program_s_own_or_few_of_python_s(self):
        for path, tree in self.trees.items():
            known = set(bound_names(tree)) | set(OWN_NAMES)
            for node in ast.walk(tree):
                if isinstance(node, ast.Name):
                    self.assertIn(node.id, known, f"{path.name}:{node.lineno}")

    def test_names_that_are_bound(self):
        not_bound = set(dir(builtins)) | {"register", "mro", "elements", "os", "sys", "gc"}
        for path, tree in self.trees.items():
            for name in bound_names(tree):
                self.assertRegex(name, r"^([A-Za-z][A-Za-z0-9_]*|__init__)$", path)
                self.assertNotIn(name, not_bound, path)

    def test_methods_and_values_of_objects(self):
        own_methods = {node.name for where, each in self.nodes() if isinstance(each, ast.ClassDef)
                       for node in each.body if isinstance(node, ast.FunctionDef)}
        own_values = {node.attr for where, node in self.nodes()
                      if isinstance(node, ast.Attribute) and isinstance(node.ctx, ast.Store)}
        self.assertEqual(own_methods & own_values, set())
        self.assertEqual((own_methods - {"__init__"} | own_values) & VALUES_OF_PYTHON_S, set())
        for where, node in self.nodes():
            if isinstance(node, ast.Attribute):
                self.assertIn(node.attr, own_methods | own_values | set(METHODS), where)

    def test_is_stands_beside_none_true_and_false_alone(self):
        for where, node in self.nodes():
            if isinstance(node, ast.Compare) and isinstance(node.ops[0], (ast.Is, ast.IsNot)):
                self.assertIn(getattr(node.comparators[0], "value", 0), (None, True, False), where)

    def test_a_list_or_dict_of_the_top_holds_none_and_is_not_changed(self):
        for path, tree in self.trees.items():
            tops = [node for node in tree.body if isinstance(node, ast.Assign)]
            names = [node.targets[0].id for node in tops]
            for node in tops:
                inner = [each for each in ast.walk(node.value) if isinstance(each, (ast.List, ast.Dict))]
                self.assertIn(inner, ([], [node.value]), path)
            for node in ast.walk(tree):
                if isinstance(node, (ast.Attribute, ast.Subscript)) and getattr(node.value, "id", None) in names:
                    self.assertIsInstance(node.ctx, ast.Load, path)
                    self.assertIn(getattr(node, "attr", "get"), ("get", "items", "keys", "values"), path)

    def test_top_of_a_file(self):
        for path, tree in self.trees.items():
            self.assertIsNotNone(ast.get_docstring(tree), path)
            for node in tree.body[1:]:
                self.assertIsInstance(node, (ast.FunctionDef, ast.ClassDef, ast.Assign), path)
                if isinstance(node, ast.Assign):
                    ast.literal_eval(node.value)
            names = [node.targets[0].id if isinstance(node, ast.Assign) else node.name for node in tree.body[1:]]
            self.assertEqual(len(names), len(set(names)), path)


if __name__ == "__main__":
    unittest.main()
