"""Does the package keep to its part of Python: the rules that a look at the source can tell."""

import ast
import builtins
import pathlib
import re
import unittest

PACKAGE = pathlib.Path(__file__).resolve().parent.parent / "glassrecord"

BUILTINS = set(
    "len range enumerate zip min max sum abs sorted reversed int str bool list tuple dict set frozenset isinstance "
    "ord repr any all divmod Exception ValueError TypeError KeyError IndexError LookupError ZeroDivisionError "
    "ArithmeticError OverflowError RuntimeError NotImplementedError AttributeError StopIteration".split())
METHODS = set(
    "append clear copy count endswith extend find get index insert isalnum isalpha isdigit islower isspace isupper "
    "items join keys ljust lower lstrip partition pop remove replace reverse rfind rjust rpartition rsplit rstrip "
    "setdefault split splitlines startswith strip update upper values zfill bit_length".split())
WORDS = set(
    "type typing typing_extensions enum Enum IntEnum StrEnum Flag IntFlag Generic Protocol ABC ABCMeta namedtuple "
    "NamedTuple TypedDict TYPE_CHECKING abstractmethod".split())
PARTS = ("dataclass", "overload", "contextmanager")
NOWHERE = set("register mro elements open input version_info with_traceback add_note format format_map".split())
STATEMENTS = (
    ast.Assign, ast.AugAssign, ast.If, ast.While, ast.For, ast.Return, ast.Break, ast.Continue, ast.Pass, ast.Raise,
    ast.Try, ast.Expr, ast.FunctionDef)
EXPRESSIONS = (
    ast.Constant, ast.Name, ast.Attribute, ast.Subscript, ast.Slice, ast.Call, ast.List, ast.Tuple, ast.Dict,
    ast.BinOp, ast.UnaryOp, ast.BoolOp, ast.Compare, ast.IfExp, ast.ListComp, ast.Lambda, ast.JoinedStr,
    ast.FormattedValue)
PYTHONS_OWN = {name for kind in (str, int, list, tuple, dict, set, bytes) for name in dir(kind)}


def sources():
    return {path.name: path.read_text(encoding="utf-8") for path in sorted(PACKAGE.glob("*.py"))}


def trees():
    return {name: ast.parse(text) for name, text in sources().items()}


def functions(tree):
    return [node for node in ast.walk(tree) if isinstance(node, ast.FunctionDef)]


class Files(unittest.TestCase):
    def test_nothing_else_lies_in_the_package(self):
        for path in PACKAGE.iterdir():
            if path.name != "__pycache__":
                self.assertRegex(path.name, r"^(__init__|[a-z][a-z0-9_]*)\.py$")
                self.assertNotIn(path.stem, dir(builtins))

    def test_signs_and_sizes(self):
        for name, text in sources().items():
            self.assertEqual(sorted({sign for sign in text if not (" " <= sign <= "~" or sign == "\n")}), [], name)
            self.assertLessEqual(len(text.split("\n")), 400, name)
            self.assertLessEqual(max(len(line) for line in text.split("\n")), 120, name)

    def test_functions_are_short(self):
        for name, tree in trees().items():
            for node in functions(tree):
                self.assertLessEqual(node.end_lineno - node.lineno + 1, 40, (name, node.name))

    def test_words(self):
        for name, text in sources().items():
            self.assertEqual(sorted(set(re.findall(r"\w+", text)) & WORDS), [], name)
            for part in PARTS:
                self.assertNotIn(part, text, name)


class Imports(unittest.TestCase):
    def drawn(self):
        rows = {}
        for name, tree in trees().items():
            rows[name] = [node for node in ast.walk(tree) if isinstance(node, (ast.Import, ast.ImportFrom))]
        return rows

    def test_from_the_file_that_defines_the_name(self):
        for name, rows in self.drawn().items():
            for row in rows:
                self.assertIsInstance(row, ast.ImportFrom, name)
                self.assertEqual(row.level, 0, name)
                self.assertTrue(row.module.startswith("glassrecord."), name)
                tree = trees()[row.module.split(".")[1] + ".py"]
                for alias in row.names:
                    self.assertIsNone(alias.asname, name)
                    self.assertIn(alias.name, top_names(tree), name)

    def test_no_two_files_draw_from_one_another(self):
        beneath = {name: {row.module.split(".")[1] + ".py" for row in rows} for name, rows in self.drawn().items()}
        self.assertEqual(beneath["__init__.py"], set())
        while beneath:
            free = [name for name, others in beneath.items() if not others & set(beneath)]
            self.assertTrue(free, beneath)
            for name in free:
                beneath.pop(name)


def top_names(tree):
    names = []
    for node in tree.body:
        if isinstance(node, (ast.FunctionDef, ast.ClassDef)):
            names.append(node.name)
        elif isinstance(node, ast.Assign):
            names += [target.id for target in node.targets]
    return names


class Forms(unittest.TestCase):
    def test_the_top_of_a_file(self):
        for name, tree in trees().items():
            self.assertIsInstance(ast.get_docstring(tree), str, name)
            names = top_names(tree) + [alias.name for node in tree.body if isinstance(node, ast.ImportFrom)
                                       for alias in node.names]
            self.assertEqual(len(names), len(set(names)), name)
            for node in tree.body[1:]:
                self.assertIsInstance(node, (ast.ImportFrom, ast.FunctionDef, ast.ClassDef, ast.Assign), name)
                if isinstance(node, ast.Assign):
                    ast.literal_eval(node.value)

    def test_statements(self):
        for name, tree in trees().items():
            for function in functions(tree):
                for node in ast.walk(function):
                    if isinstance(node, ast.stmt):
                        self.assertIsInstance(node, STATEMENTS, (name, node.lineno))
                    if isinstance(node, ast.Expr):
                        self.assertIsInstance(node.value, ast.Call, (name, node.lineno))
                    if isinstance(node, ast.Assign):
                        self.assertEqual(len(node.targets), 1, (name, node.lineno))
                    if isinstance(node, (ast.For, ast.While)):
                        self.assertEqual(node.orelse, [], (name, node.lineno))

    def test_expressions(self):
        for name, tree in trees().items():
            for node in ast.walk(tree):
                where = (name, getattr(node, "lineno", 0))
                if isinstance(node, ast.expr):
                    self.assertIsInstance(node, EXPRESSIONS, where)
                if isinstance(node, ast.BinOp):
                    self.assertNotIsInstance(node.op, (ast.Div, ast.MatMult, ast.Pow), where)
                if isinstance(node, ast.Constant):
                    self.assertIn(type(node.value), (int, str, bool, type(None)), where)
                if isinstance(node, ast.ListComp):
                    self.assertEqual(len(node.generators), 1, where)
                    self.assertLessEqual(len(node.generators[0].ifs), 1, where)
                if isinstance(node, ast.Compare) and any(isinstance(op, (ast.Is, ast.IsNot)) for op in node.ops):
                    self.assertIsNone(node.comparators[0].value, where)

    def test_parameters_are_plain(self):
        for name, tree in trees().items():
            for node in functions(tree):
                self.assertEqual(node.decorator_list, [], name)
                self.assertIsNone(node.args.vararg, name)
                self.assertIsNone(node.args.kwarg, name)
                self.assertEqual(node.args.kwonlyargs + node.args.posonlyargs, [], name)

    def test_sets_are_not_kept(self):
        for name, tree in trees().items():
            for node in ast.walk(tree):
                if isinstance(node, ast.Call):
                    for inner in node.args:
                        if isinstance(inner, ast.Call) and isinstance(inner.func, ast.Name) and inner.func.id == "set":
                            self.assertIn(node.func.id, ("sorted", "len"), name)
                            self.assertEqual(node.keywords, [], name)
                if isinstance(node, (ast.Assign, ast.Return)) and isinstance(node.value, ast.Call):
                    self.assertNotEqual(getattr(node.value.func, "id", ""), "set", name)


class Names(unittest.TestCase):
    def bound_within(self, tree):
        names = set()
        for node in functions(tree):
            names |= {arg.arg for arg in node.args.args}
            names |= {inner.id for inner in ast.walk(node)
                      if isinstance(inner, ast.Name) and isinstance(inner.ctx, ast.Store)}
        return names

    def test_names_bound_are_plain_and_not_python_s_own(self):
        for name, tree in trees().items():
            taken = {alias.name for node in tree.body if isinstance(node, ast.ImportFrom) for alias in node.names}
            taken |= {node.name for node in tree.body if isinstance(node, ast.ClassDef)}
            for bound in self.bound_within(tree):
                self.assertRegex(bound, r"^[A-Za-z]\w*$", name)
                self.assertNotIn(bound, dir(builtins), name)
                self.assertNotIn(bound, taken, name)

    def test_names_read_are_known(self):
        for name, tree in trees().items():
            known = self.bound_within(tree) | set(top_names(tree)) | BUILTINS
            known |= {alias.name for node in tree.body if isinstance(node, ast.ImportFrom) for alias in node.names}
            known |= {inner.id for node in ast.walk(tree) if isinstance(node, ast.comprehension)
                      for inner in ast.walk(node.target) if isinstance(inner, ast.Name)}
            read = {node.id for node in ast.walk(tree) if isinstance(node, ast.Name) and isinstance(node.ctx, ast.Load)}
            self.assertEqual(sorted(read - known), [], name)

    def test_nothing_bears_a_name_that_is_not_used(self):
        for name, tree in trees().items():
            names = {node.id for node in ast.walk(tree) if isinstance(node, ast.Name)}
            names |= {node.attr for node in ast.walk(tree) if isinstance(node, ast.Attribute)}
            names |= {node.name for node in functions(tree)}
            self.assertEqual(sorted(names & NOWHERE), [], name)

    def test_methods_and_values(self):
        methods, values, called = set(), set(), set()
        for tree in trees().values():
            for node in ast.walk(tree):
                if isinstance(node, ast.ClassDef):
                    methods |= {inner.name for inner in node.body}
                if isinstance(node, ast.Attribute) and isinstance(node.ctx, ast.Store):
                    values.add(node.attr)
                if isinstance(node, ast.Call) and isinstance(node.func, ast.Attribute):
                    called.add(node.func.attr)
        methods -= {"__init__"}
        self.assertEqual(sorted(methods & values), [])
        self.assertEqual(sorted((methods | values) & PYTHONS_OWN), [])
        self.assertEqual(sorted(called - methods - METHODS), [])


if __name__ == "__main__":
    unittest.main()
