"""The form of the package: the rules of shared/LANGUAGE.md that can be seen in one file, some of them narrower."""

import ast
import builtins
import os
import re
import warnings

from support import Case
from views import misplaced

FOLDER = os.path.join(os.path.dirname(os.path.abspath(__file__)), os.pardir, "quaybest")
LIBRARY = {("math", "gcd"), ("itertools", "combinations"), ("itertools", "permutations")}
STATEMENTS = """Module FunctionDef ClassDef Return Assign AugAssign For While If Raise Expr Pass Break Continue
    ImportFrom Delete Try ExceptHandler""".split()
EXPRESSIONS = """BoolOp BinOp UnaryOp IfExp Dict ListComp DictComp Compare Call Constant Attribute Subscript Starred
    Name List Tuple Slice And Or Add Sub Mult Mod FloorDiv LShift BitOr BitAnd Not USub Eq NotEq Lt LtE Gt GtE Is
    IsNot In NotIn comprehension arguments arg keyword alias JoinedStr FormattedValue Load Store Del""".split()
CALLED = "len range enumerate min max sum abs sorted reversed int str bool list tuple set any all zip".split()
METHODS = "append count extend find get index insert items join pop values".split()
WORDS = r"\b(type|typing|enum|Enum|Flag|Generic|Protocol|ABC|namedtuple)\b|dataclass|overload|contextmanager"
NAMES = "elements register mro open input law add_note args format hex encode decode".split()


def files():
    found = []
    for name in sorted(os.listdir(FOLDER)):
        if name != "__pycache__":
            with open(os.path.join(FOLDER, name), encoding="utf-8") as file:
                found.append((name, file.read()))
    return found


def nodes(kind):
    for name, text in files():
        for node in ast.walk(ast.parse(text)):
            if isinstance(node, kind):
                yield name, node


def bound_names(tree):
    for node in ast.walk(tree):
        if isinstance(node, ast.Name) and isinstance(node.ctx, ast.Store):
            yield node.id
        elif isinstance(node, ast.arg):
            yield node.arg


def all_names(tree):
    yield from bound_names(tree)
    for node in ast.walk(tree):
        if isinstance(node, ast.Attribute):
            yield node.attr
        elif isinstance(node, (ast.FunctionDef, ast.ClassDef)):
            yield node.name


class FormTest(Case):
    """Rules L1 to L28, as far as a look at one file tells."""

    def test_files(self):
        for name, text in files():
            self.assertRegex(name, r"^([a-z][a-z0-9_]*|__init__)\.py$")
            self.assertLessEqual(len(text.splitlines()), 399, name)
            self.assertRegex(text, r"^[ -~\n]*$", name)
            self.assertLessEqual(max(len(line) for line in text.splitlines()), 120, name)

    def test_python_gives_no_warning(self):
        with warnings.catch_warnings():
            warnings.simplefilter("error")
            for name, text in files():
                compile(text, name, "exec")

    def test_functions_are_short(self):
        for name, node in nodes(ast.FunctionDef):
            self.assertLessEqual(node.end_lineno - node.lineno + 1, 40, (name, node.name))
            self.assertEqual(node.decorator_list, [], (name, node.name))

    def test_kinds_of_statements_and_expressions(self):
        for name, node in nodes(ast.AST):
            self.assertIn(node.__class__.__name__, STATEMENTS + EXPRESSIONS, (name, getattr(node, "lineno", 0)))

    def test_module_level(self):
        for name, text in files():
            for node in ast.parse(text).body:
                self.assertIsInstance(node, (ast.Expr, ast.ImportFrom, ast.FunctionDef, ast.ClassDef, ast.Assign), name)
                if isinstance(node, ast.Assign):
                    self.check_plain(node.value, ast.parse(text))
                if isinstance(node, ast.Expr):
                    self.assertIsInstance(node.value, ast.Constant)

    def check_plain(self, node, tree):
        """A value is plain, or a dict of functions of the file."""
        if isinstance(node, ast.Dict) and any(isinstance(value, ast.Name) for value in node.values):
            functions = [other.name for other in tree.body if isinstance(other, ast.FunctionDef)]
            self.assertLessEqual({value.id for value in node.values}, set(functions))
        else:
            ast.literal_eval(node)

    def test_attributes_are_assigned_through_local_names(self):
        for name, node in nodes((ast.Assign, ast.AugAssign)):
            for target in node.targets if isinstance(node, ast.Assign) else [node.target]:
                if isinstance(target, ast.Attribute):
                    self.assertIsInstance(target.value, ast.Name, (name, node.lineno))

    def test_errors_are_created_on_the_spot(self):
        errors = {node.name for _, node in nodes(ast.ClassDef) if node.bases}
        for name, node in nodes(ast.Raise):
            self.assertIsInstance(node.exc, ast.Call, (name, node.lineno))
            self.assertIn(node.exc.func.id, errors, (name, node.lineno))

    def test_own_errors_are_caught(self):
        for name, node in nodes(ast.ExceptHandler):
            self.assertIsInstance(node.type, ast.Name, name)
            self.assertNotIn(node.type.id, dir(builtins), name)
        for name, node in nodes(ast.Try):
            self.assertEqual(node.finalbody, [], name)

    def test_imports(self):
        known = {"quaybest." + name[:-3] for name, _ in files()}
        for name, node in nodes(ast.ImportFrom):
            self.assertEqual(node.level, 0, name)
            for alias in node.names:
                self.assertIsNone(alias.asname, name)
                self.assertTrue(node.module in known or (node.module, alias.name) in LIBRARY, (name, node.module))

    def test_imports_are_used(self):
        for name, text in files():
            tree = ast.parse(text)
            used = {node.id for node in ast.walk(tree) if isinstance(node, ast.Name)}
            for node in ast.walk(tree):
                if isinstance(node, ast.ImportFrom):
                    self.assertLessEqual({alias.name for alias in node.names}, used, name)

    def test_local_names(self):
        for name, text in files():
            tree = ast.parse(text)
            barred = {alias.name for node in ast.walk(tree) if isinstance(node, ast.ImportFrom) for alias in node.names}
            barred |= {node.name for node in ast.walk(tree) if isinstance(node, ast.ClassDef)} | set(dir(builtins))
            functions = {node.name for node in tree.body if isinstance(node, ast.FunctionDef)}
            self.assertFalse(functions & set(dir(builtins)), name)
            self.assertFalse(set(bound_names(tree)) & barred, name)

    def test_calls(self):
        for name, node in nodes(ast.Call):
            place = (name, node.lineno)
            if isinstance(node.func, ast.Name) and node.func.id in dir(builtins):
                self.assertIn(node.func.id, CALLED, place)
                self.assertEqual(node.keywords, [], place)
            for arg in node.args:
                self.assertFalse(isinstance(arg, ast.Starred) and not isinstance(arg.value, ast.Name), place)
                self.assertFalse(isinstance(arg, ast.Starred) and arg is not node.args[-1], place)

    def test_sets_are_only_sorted(self):
        for name, text in files():
            for match in re.finditer(r"\bset\(", text):
                self.assertTrue(text[:match.start()].endswith("sorted("), name)

    def test_methods_of_builtin_values(self):
        own = {node.name for _, node in nodes(ast.FunctionDef)}
        for name, node in nodes(ast.Call):
            if isinstance(node.func, ast.Attribute) and node.func.attr not in own:
                self.assertIn(node.func.attr, METHODS, (name, node.lineno))

    def test_views_are_iterated_on_the_spot(self):
        for name, text in files():
            self.assertEqual(misplaced(text), [], name)

    def test_library_calls_are_iterated_on_the_spot(self):
        iterated = [node.iter for kind in (ast.For, ast.comprehension) for _, node in nodes(kind)]
        places = {(name, node.lineno, node.col_offset) for name, node in nodes(ast.Call)
                  if isinstance(node.func, ast.Name) and node.func.id in ("combinations", "permutations")}
        self.assertEqual(len(places), len([node for node in iterated if isinstance(node, ast.Call) and
                                           getattr(node.func, "id", "") in ("combinations", "permutations")]))

    def test_strings_and_words(self):
        for name, text in files():
            self.assertNotIn("\\", text, name)
            tree = ast.parse(text)
            for node in ast.walk(tree):
                if isinstance(node, ast.Constant) and isinstance(node.value, str):
                    self.assertNotIn("%", node.value, name)
                if isinstance(node, (ast.Module, ast.ClassDef, ast.FunctionDef)) and ast.get_docstring(node):
                    node.body = node.body[1:] or [ast.Pass()]
            self.assertIsNone(re.search(WORDS, ast.unparse(tree)), name)
            self.assertFalse(set(all_names(tree)) & set(NAMES), name)

    def test_names_with_underscores(self):
        for name, text in files():
            tree = ast.parse(text)
            read = {node.id for node in ast.walk(tree) if isinstance(node, ast.Name) and isinstance(node.ctx, ast.Load)}
            self.assertNotIn("_", read, name)
            self.assertLessEqual(set(re.findall(r"\b__\w+", text)), {"__init__", "__len__"}, name)

    def test_documented(self):
        for name, text in files():
            tree = ast.parse(text)
            self.assertTrue(ast.get_docstring(tree), name)
            for node in ast.walk(tree):
                if isinstance(node, (ast.ClassDef, ast.FunctionDef)) and not node.name.startswith("_"):
                    self.assertTrue(ast.get_docstring(node), (name, node.name))

    def test_no_file_imports_from_one_that_imports_from_it(self):
        imported = {}
        for name, node in nodes(ast.ImportFrom):
            imported.setdefault("quaybest." + name[:-3], set()).add(node.module)
        reached = {name: set(rows) for name, rows in imported.items()}
        for _ in reached:
            for rows in reached.values():
                rows |= {further for row in rows for further in imported.get(row, ())}
        for name, rows in reached.items():
            self.assertNotIn(name, rows)
