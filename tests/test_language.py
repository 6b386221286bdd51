"""The package keeps to the small part of Python that it is written in, as far as a test can see it."""

import ast
import builtins
import pathlib
import re
import unittest

PACKAGE = pathlib.Path(__file__).resolve().parent.parent / "clinicdesk"
FILES = sorted(PACKAGE.glob("*.py"))
OWN_NAMES = ("len range enumerate zip min max sum abs sorted reversed int str bool list tuple dict set frozenset "
             "isinstance ord repr any all divmod").split()
METHODS = ("append clear copy count endswith extend find get index insert isalnum isalpha isdigit islower isspace isupper "
           "items join keys ljust lower lstrip partition pop remove replace reverse rfind rjust rpartition rsplit rstrip "
           "setdefault split splitlines startswith strip update upper values zfill bit_length").split()
WORDS = ("type typing typing_extensions enum Enum IntEnum StrEnum Flag IntFlag Generic Protocol ABC ABCMeta namedtuple "
         "NamedTuple TypedDict TYPE_CHECKING abstractmethod").split()
UNUSED = ("register mro elements open input version_info with_traceback add_note attrgetter breakpoint builtins compile "
          "copyright credits delattr dir eval exec exit gc getattr globals hasattr help id importlib license locals "
          "methodcaller os quit setattr super type vars sys").split()
STATEMENTS = (ast.Assign, ast.AugAssign, ast.If, ast.While, ast.For, ast.Return, ast.Break, ast.Continue, ast.Pass,
              ast.Raise, ast.Try, ast.Expr, ast.FunctionDef, ast.ClassDef, ast.ImportFrom)
EXPRESSIONS = (ast.BinOp, ast.UnaryOp, ast.BoolOp, ast.Compare, ast.IfExp, ast.Call, ast.Attribute, ast.Subscript,
               ast.Slice, ast.List, ast.Tuple, ast.Dict, ast.ListComp, ast.Constant, ast.Name, ast.JoinedStr,
               ast.FormattedValue, ast.Lambda)
WALKED = ("zip", "enumerate", "reversed", "range")
VALUE_METHODS = {name for kind in (str, int, list, dict, set, bytes, tuple) for name in builtins.dir(kind)}


def trees():
    return [(path, ast.parse(path.read_text("ascii"))) for path in FILES]


def nodes(kind):
    return [(path.name, node) for path, tree in trees() for node in ast.walk(tree) if isinstance(node, kind)]


def bound_names(function):
    names = [argument.arg for argument in function.args.args]
    for node in ast.walk(function):
        if isinstance(node, ast.Name) and isinstance(node.ctx, ast.Store):
            names.append(node.id)
    return names


def imported(tree):
    return [(node.module, name.name) for node in tree.body if isinstance(node, ast.ImportFrom) for name in node.names]


def top_names(tree):
    names = []
    for node in tree.body:
        if isinstance(node, (ast.FunctionDef, ast.ClassDef)):
            names.append(node.name)
        elif isinstance(node, ast.Assign):
            names.append(node.targets[0].id)
    return names


class FilesTest(unittest.TestCase):
    def test_files(self):
        inside = [path.name for path in PACKAGE.iterdir() if path.name != "__pycache__"]
        self.assertEqual(sorted(inside), [path.name for path in FILES])
        self.assertIn("__init__.py", inside)
        for name in inside:
            self.assertRegex(name, r"^[a-z_][a-z0-9_]*\.py$")
            self.assertTrue(name == "__init__.py" or not hasattr(builtins, name[:-3]), name)

    def test_size_and_signs(self):
        for path in FILES:
            rows = path.read_bytes().decode("ascii").split("\n")
            self.assertLessEqual(len(rows), 400, path.name)
            for row in rows:
                self.assertLessEqual(len(row), 120, (path.name, row))
                self.assertRegex(row, r"^[ -~]*$")

    def test_functions_have_at_most_40_lines(self):
        for name, node in nodes(ast.FunctionDef):
            self.assertLessEqual(node.end_lineno - node.lineno + 1, 40, (name, node.name))

    def test_words(self):
        for path in FILES:
            text = path.read_text("ascii")
            for word in WORDS:
                self.assertIsNone(re.search(r"\b%s\b" % word, text), (path.name, word))
            self.assertIsNone(re.search("dataclass|overload|contextmanager", text), path.name)


class TopTest(unittest.TestCase):
    def test_what_stands_at_a_file_s_top(self):
        for path, tree in trees():
            for place, node in enumerate(tree.body):
                docstring = place == 0 and isinstance(node, ast.Expr) and isinstance(node.value, ast.Constant)
                kinds = (ast.ImportFrom, ast.FunctionDef, ast.ClassDef, ast.Assign)
                self.assertTrue(docstring or isinstance(node, kinds), (path.name, node.lineno))
            names = top_names(tree) + [name for module, name in imported(tree)]
            self.assertEqual(len(names), len(set(names)), path.name)

    def test_values_at_the_top_are_plain(self):
        for path, tree in trees():
            functions = [node.name for node in tree.body if isinstance(node, ast.FunctionDef)]
            for node in tree.body:
                if isinstance(node, ast.Assign):
                    for part in ast.walk(node.value):
                        kinds = (ast.Constant, ast.Tuple, ast.List, ast.Dict, ast.UnaryOp, ast.USub, ast.Load)
                        own = isinstance(part, ast.Name) and part.id in functions
                        self.assertTrue(own or isinstance(part, kinds), (path.name, node.lineno))
                        if part is not node.value:
                            self.assertNotIsInstance(part, (ast.List, ast.Dict))

    def test_imports(self):
        files = {"clinicdesk." + path.stem: (top_names(tree), imported(tree)) for path, tree in trees()}
        for module, (names, drawn) in files.items():
            for other, name in drawn:
                self.assertIn(name, files[other][0], (module, other, name))
        done = []
        while len(done) < len(files):
            free = [name for name in files if name not in done and all(other in done for other, drawn in files[name][1])]
            self.assertTrue(free, "files draw from one another")
            done.extend(free)

    def test_every_import_is_used(self):
        for path, tree in trees():
            used = {node.id for node in ast.walk(tree) if isinstance(node, ast.Name)}
            for module, name in imported(tree):
                self.assertIn(name, used, path.name)

    def test_every_function_is_used(self):
        used = {node.id for name, node in nodes(ast.Name)}
        for path, tree in trees():
            for name in top_names(tree):
                self.assertTrue(name in used or name == "answers", (path.name, name))


class NamesTest(unittest.TestCase):
    def test_functions_and_classes(self):
        for name, node in nodes(ast.FunctionDef):
            arguments = node.args
            self.assertFalse(arguments.vararg or arguments.kwarg or arguments.kwonlyargs or arguments.posonlyargs)
            self.assertFalse(node.decorator_list or node.returns)
            self.assertFalse(any(argument.annotation for argument in arguments.args))
        for name, node in nodes(ast.ClassDef):
            self.assertFalse(node.decorator_list or node.bases or node.keywords)
            self.assertTrue(all(isinstance(part, ast.FunctionDef) for part in node.body))

    def test_names(self):
        for path, tree in trees():
            taken = [name for module, name in imported(tree)] + top_names(tree)
            for node in ast.walk(tree):
                if isinstance(node, ast.FunctionDef):
                    for name in bound_names(node):
                        self.assertRegex(name, r"^[A-Za-z][A-Za-z0-9_]*$")
                        self.assertNotIn(name, taken, (path.name, node.name))
                        self.assertFalse(hasattr(builtins, name), (path.name, node.name, name))
                        self.assertNotIn(name, UNUSED)
            for name in top_names(tree):
                self.assertRegex(name, r"^[A-Za-z][A-Za-z0-9_]*$")
                self.assertFalse(hasattr(builtins, name), (path.name, name))

    def test_names_of_python_s_own(self):
        for path, tree in trees():
            own = set(top_names(tree)) | {name for module, name in imported(tree)}
            for node in ast.walk(tree):
                if isinstance(node, ast.FunctionDef):
                    own.update(bound_names(node))
                if isinstance(node, ast.comprehension):
                    own.update(part.id for part in ast.walk(node.target) if isinstance(part, ast.Name))
            for node in ast.walk(tree):
                if isinstance(node, ast.Name) and node.id not in own:
                    self.assertIn(node.id, OWN_NAMES, (path.name, node.lineno))

    def test_methods_and_values(self):
        attributes = set()
        for path, tree in trees():
            calls = {id(node.func) for node in ast.walk(tree) if isinstance(node, ast.Call)}
            for node in ast.walk(tree):
                if isinstance(node, ast.Attribute):
                    if id(node) in calls:
                        self.assertIn(node.attr, METHODS, (path.name, node.lineno))
                    else:
                        attributes.add(node.attr)
        for name in attributes:
            self.assertNotIn(name, VALUE_METHODS)
            self.assertNotIn(name, UNUSED)
            self.assertRegex(name, r"^[a-z][a-z0-9_]*$")


class StatementsTest(unittest.TestCase):
    def test_statements_and_expressions(self):
        for name, node in nodes(ast.stmt):
            self.assertIsInstance(node, STATEMENTS, (name, node.lineno))
            if isinstance(node, ast.Assign):
                self.assertEqual(len(node.targets), 1, (name, node.lineno))
                self.assertIsInstance(node.targets[0], (ast.Name, ast.Attribute, ast.Subscript), (name, node.lineno))
            if isinstance(node, (ast.For, ast.While)):
                self.assertFalse(node.orelse, (name, node.lineno))
            if isinstance(node, ast.Expr) and node.lineno > 1:
                self.assertIsInstance(node.value, ast.Call, (name, node.lineno))
        for name, node in nodes(ast.expr):
            self.assertIsInstance(node, EXPRESSIONS, (name, node.lineno))
            if isinstance(node, ast.BinOp):
                self.assertNotIsInstance(node.op, (ast.Div, ast.MatMult, ast.Pow))
            if isinstance(node, ast.Constant):
                self.assertIn(node.value.__class__, (int, str, bool, None.__class__))
                self.assertNotIn("%", str(node.value))
            if isinstance(node, ast.ListComp):
                self.assertEqual(len(node.generators), 1)
                self.assertLessEqual(len(node.generators[0].ifs), 1)

    def test_is_stands_beside_none_true_and_false(self):
        for name, node in nodes(ast.Compare):
            for operator, right in zip(node.ops, node.comparators):
                if isinstance(operator, (ast.Is, ast.IsNot)):
                    self.assertIn(right.value, (None, True, False))

    def test_walked_on_the_spot(self):
        for path, tree in trees():
            walked = set()
            for node in ast.walk(tree):
                if isinstance(node, (ast.For, ast.comprehension)):
                    walked.add(id(node.iter))
            for node in ast.walk(tree):
                if isinstance(node, ast.Call) and isinstance(node.func, ast.Name) and node.func.id in WALKED:
                    self.assertIn(id(node), walked, (path.name, node.lineno))

    def test_keywords(self):
        for name, node in nodes(ast.Call):
            for keyword in node.keywords:
                self.assertIn((node.func.id, keyword.arg), (("enumerate", "start"),), (name, node.lineno))
