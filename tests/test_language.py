"""What of the language of the package can be seen in its text: sizes, imports, words, characters."""

import ast
import io
import os
import re
import tokenize
import unittest

PACKAGE = os.path.join(os.path.dirname(os.path.dirname(os.path.abspath(__file__))), "refpack")
BUILTINS = (
    "len range enumerate zip min max sum abs sorted reversed int str bool list tuple dict set isinstance ord repr "
    "any all divmod ValueError TypeError KeyError IndexError map iter"
).split()
BARRED = (
    "mro elements open input law version_info with_traceback add_note type typing enum Enum Generic "
    "Protocol ABC namedtuple NamedTuple TypedDict dataclass overload contextmanager abstractmethod"
).split()
WORDS_BARRED = (
    "type typing typing_extensions enum Enum IntEnum StrEnum Flag IntFlag Generic Protocol ABC ABCMeta namedtuple "
    "NamedTuple TypedDict TYPE_CHECKING abstractmethod"
).split()
PARTS_BARRED = ("dataclass", "overload", "contextmanager")
PYTHON_BUILTINS = set(dir(__builtins__) if not isinstance(__builtins__, dict) else __builtins__)


def texts():
    found = {}
    for name in sorted(os.listdir(PACKAGE)):
        if name != "__pycache__":
            with open(os.path.join(PACKAGE, name), encoding="utf-8") as source:
                found[name] = source.read()
    return found


def trees():
    return {name: ast.parse(text) for name, text in texts().items()}


def nodes(*classes):
    for name, tree in trees().items():
        for node in ast.walk(tree):
            if isinstance(node, classes):
                yield name, node


def docstrings(tree):
    """The rows at which docstrings begin."""
    found = []
    for node in ast.walk(tree):
        if isinstance(node, (ast.Module, ast.ClassDef, ast.FunctionDef)) and ast.get_docstring(node) is not None:
            found.append(node.body[0].lineno)
    return found


def plain_tokens(text):
    """What stands in a file but for its comments and docstrings."""
    rows = docstrings(ast.parse(text))
    return [token for token in tokenize.generate_tokens(io.StringIO(text).readline)
            if token.type != tokenize.COMMENT and not (token.type == tokenize.STRING and token.start[0] in rows)]


class LanguageTests(unittest.TestCase):

    def test_files(self):
        names = list(texts())
        self.assertIn("__init__.py", names)
        for name in names:
            self.assertTrue(re.fullmatch(r"[a-z][a-z0-9_]*\.py|__init__\.py|__main__\.py", name), name)

    def test_sizes_and_characters(self):
        for name, text in texts().items():
            lines = text.split("\n")
            self.assertLess(len(lines), 400, name)
            for line in lines:
                self.assertLessEqual(len(line), 120, (name, line))
                self.assertTrue(all(" " <= character <= "~" for character in line), (name, line))
        for name, node in nodes(ast.FunctionDef):
            self.assertLessEqual(node.end_lineno - node.lineno + 1, 40, (name, node.name))

    def test_imports(self):
        defined = {name: [node.name for node in tree.body if hasattr(node, "name")] for name, tree in trees().items()}
        for name, node in nodes(ast.Import):
            self.fail((name, ast.unparse(node)))
        for name, node in nodes(ast.ImportFrom):
            self.assertEqual(node.level, 0, name)
            self.assertTrue(node.module.startswith("refpack."), name)
            origin = node.module.split(".")[1] + ".py"
            values = [target.id for each in trees()[origin].body if isinstance(each, ast.Assign)
                      for target in each.targets]
            for alias in node.names:
                self.assertIn(alias.name, defined[origin] + values, name)
                self.assertIsNone(alias.asname)

    def test_no_circle_of_imports(self):
        imports = {name: [] for name in texts()}
        for name, node in nodes(ast.ImportFrom):
            imports[name].append(node.module.split(".")[1] + ".py")
        done = []
        while len(done) < len(imports):
            free = [name for name in imports if name not in done and all(other in done for other in imports[name])]
            self.assertTrue(free, "files import from each other")
            done.extend(free)

    def test_values_and_signs(self):
        barred = (
            ast.Div, ast.AsyncFunctionDef, ast.Await, ast.Global, ast.NamedExpr, ast.Pow,
        )
        for name, node in nodes(*barred):
            self.fail((name, ast.dump(node)))
        for name, node in nodes(ast.Constant):
            self.assertNotIsInstance(node.value, (float, complex, bytes), name)
            if isinstance(node.value, str) and "\n" not in node.value:
                self.assertNotIn("%", node.value, name)

    def test_names(self):
        parsed = list(nodes(ast.AST))
        decorators = [id(decorator) for _, node in parsed for decorator in getattr(node, "decorator_list", ())]
        for name, node in parsed:
            if not isinstance(node, ast.Name):
                continue
            if isinstance(node.ctx, ast.Load):
                self.assertTrue(node.id not in PYTHON_BUILTINS or node.id in BUILTINS or id(node) in decorators,
                                (name, node.id))
            else:
                self.assertNotIn(node.id, PYTHON_BUILTINS, name)
            self.assertNotIn(node.id, BARRED, name)
        for name, node in nodes(ast.FunctionDef, ast.ClassDef):
            self.assertNotIn(node.name, PYTHON_BUILTINS, name)
            self.assertNotIn(node.name, BARRED, name)
        for name, node in nodes(ast.arg):
            self.assertNotIn(node.arg, PYTHON_BUILTINS, name)
            self.assertNotIn(node.arg, BARRED, name)

    def test_words(self):
        for name, text in texts().items():
            for token in plain_tokens(text):
                for word in re.findall(r"\w+", token.string):
                    self.assertNotIn(word, WORDS_BARRED, (name, token.start[0]))
                for part in PARTS_BARRED:
                    self.assertNotIn(part, token.string, (name, token.start[0]))

    def test_words_in_comments_and_docstrings_are_free(self):
        text = '"""A type."""\n\nKEY = 1  # no type\n\n\ndef told():\n    """The type."""\n    return "overloaded"\n'
        self.assertEqual([token.string for token in plain_tokens(text) if token.type == tokenize.STRING],
                         ['"overloaded"'])
        self.assertNotIn("type", "".join(token.string for token in plain_tokens(text)))

    def test_no_local_name_is_imported(self):
        for name, tree in trees().items():
            taken = [alias.name for node in tree.body if isinstance(node, ast.ImportFrom) for alias in node.names]
            taken += [node.name for node in tree.body if isinstance(node, ast.ClassDef)]
            for node in ast.walk(tree):
                if isinstance(node, ast.Name) and not isinstance(node.ctx, ast.Load):
                    self.assertNotIn(node.id, taken, name)
                if isinstance(node, ast.arg):
                    self.assertNotIn(node.arg, taken, name)

    def test_decorators(self):
        for name, node in nodes(ast.FunctionDef, ast.ClassDef):
            for decorator in node.decorator_list:
                self.assertIn(ast.unparse(decorator), ("property", "classmethod", "staticmethod"), (name, node.name))


if __name__ == "__main__":
    unittest.main()
