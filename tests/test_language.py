"""The plainer ones of the language's rules, L1 to L28, over all files of the package."""

import ast
import builtins
import pathlib
import re
import unittest

FOLDER = pathlib.Path(__file__).resolve().parent.parent / "pawldials"
BUILTINS = set("""len range enumerate zip min max sum abs sorted reversed int str bool bytes list tuple dict set
    frozenset isinstance ord repr any all divmod iter next super property staticmethod classmethod Exception ValueError
    TypeError KeyError IndexError LookupError ZeroDivisionError ArithmeticError OverflowError RuntimeError
    NotImplementedError AttributeError StopIteration NotImplemented""".split())
METHODS = set("""append clear copy count endswith extend find get index insert isalnum isalpha isdigit islower isspace
    isupper items join keys ljust lower lstrip partition pop remove replace reverse rfind rjust rpartition rsplit
    rstrip setdefault split splitlines startswith strip update upper values zfill bit_length sort add
    discard""".split())
STATEMENTS = (ast.Assign, ast.AugAssign, ast.If, ast.While, ast.For, ast.Return, ast.Break, ast.Continue, ast.Pass,
              ast.Raise, ast.Assert, ast.Delete, ast.Nonlocal, ast.Match, ast.With, ast.Try, ast.Expr,
              ast.FunctionDef, ast.ClassDef, ast.ImportFrom)
BARRED = set("""type typing typing_extensions enum Enum IntEnum StrEnum Flag IntFlag Generic Protocol ABC ABCMeta
    namedtuple NamedTuple TypedDict TYPE_CHECKING abstractmethod""".split())
UNUSED = set("""register mro elements open input law version_info with_traceback add_note eval exec getattr setattr
    vars dir id help os sys gc""".split())


def bound_names(tree):
    """All names that a file gives to something."""
    for node in ast.walk(tree):
        if isinstance(node, ast.Name) and not isinstance(node.ctx, ast.Load):
            yield node.id
        elif isinstance(node, ast.arg):
            yield node.arg
        elif isinstance(node, (ast.FunctionDef, ast.ClassDef)):
            yield node.name
        elif isinstance(node, ast.alias):
            yield node.asname or node.name


class Language(unittest.TestCase):
    def setUp(self):
        self.files = {}
        for path in sorted(FOLDER.glob("*.py")):
            text = path.read_bytes().decode("ascii")
            self.files[path.stem] = (text, ast.parse(text))

    def each(self, *kinds):
        """All nodes of these kinds, each with where it stands."""
        for file, (_, tree) in self.files.items():
            for node in ast.walk(tree):
                if isinstance(node, kinds):
                    yield node, f"{file}, line {getattr(node, 'lineno', 0)}"

    def test_files(self):
        for path in FOLDER.iterdir():
            self.assertTrue(path.name == "__pycache__" or re.fullmatch(r"[a-z0-9_]+\.py", path.name), path.name)

    def test_signs_and_sizes(self):
        for file, (text, _) in self.files.items():
            with self.subTest(file=file):
                self.assertRegex(text, r"\A[ -~\n]*\Z")
                self.assertLessEqual(text.count("\n"), 399)
                self.assertLessEqual(max(map(len, text.split("\n"))), 120)
                self.assertEqual(BARRED & set(re.findall(r"\w+", text)), set())
        for node, where in self.each(ast.FunctionDef):
            self.assertLessEqual(node.end_lineno - node.lineno + 1, 40, where)

    def test_imports(self):
        for node, where in self.each(ast.Import, ast.ImportFrom):
            self.assertIsInstance(node, ast.ImportFrom, where)
            self.assertEqual((node.level, node.module.split(".")[0]), (0, "pawldials"), where)
            tree = self.files[node.module.split(".")[1]][1]
            defined = [row.name for row in tree.body if isinstance(row, (ast.FunctionDef, ast.ClassDef))]
            defined += [row.targets[0].id for row in tree.body if isinstance(row, ast.Assign)]
            for alias in node.names:
                self.assertIn(alias.name, defined, where)
                self.assertIsNone(alias.asname, where)

    def test_statements_and_values(self):
        for node, where in self.each(ast.stmt):
            self.assertIsInstance(node, STATEMENTS, where)
        for node, where in self.each(ast.operator):
            self.assertNotIsInstance(node, (ast.Div, ast.MatMult), where)
        for node, where in self.each(ast.Constant):
            self.assertNotIsInstance(node.value, (float, complex), where)
            self.assertNotIn("%", node.value if isinstance(node.value, str) else "", where)
        for node, where in self.each(ast.Compare):
            for sign, side in zip(node.ops, node.comparators):
                if isinstance(sign, (ast.Is, ast.IsNot)):
                    self.assertTrue(isinstance(side, ast.Constant) and side.value in (None, True, False), where)

    def test_names(self):
        for file, (_, tree) in self.files.items():
            for name in bound_names(tree):
                with self.subTest(file=file, name=name):
                    self.assertTrue(re.fullmatch(r"[A-Za-z][A-Za-z0-9_]*|__[a-z]+__", name))
                    self.assertFalse(hasattr(builtins, name) and not name.startswith("__"))
                    self.assertNotIn(name, UNUSED)

    def test_names_bound_once(self):
        for file, (_, tree) in self.files.items():
            taken = [alias.name for row in tree.body if isinstance(row, ast.ImportFrom) for alias in row.names]
            classes = [row.name for row in tree.body if isinstance(row, ast.ClassDef)]
            top = taken + classes + [row.name for row in tree.body if isinstance(row, ast.FunctionDef)]
            top += [row.targets[0].id for row in tree.body if isinstance(row, ast.Assign)]
            self.assertEqual(len(top), len(set(top)), file)
            inner = [node.id for node in ast.walk(tree) if isinstance(node, ast.Name) and node.col_offset > 0
                     and isinstance(node.ctx, ast.Store)]
            inner += [node.arg for node in ast.walk(tree) if isinstance(node, ast.arg)]
            self.assertEqual(set(inner) & set(top), set(), file)

    def test_builtins_and_methods(self):
        own = set()
        for _, tree in self.files.values():
            own |= set(bound_names(tree))
        for node, where in self.each(ast.Name):
            self.assertIn(node.id, BUILTINS | own, where)
        for node, where in self.each(ast.Call):
            if isinstance(node.func, ast.Attribute):
                self.assertIn(node.func.attr, METHODS | own | {"__init__"}, where)

    def test_no_two_files_import_each_other(self):
        needs = {file: {node.module.split(".")[1] for node in ast.walk(tree) if isinstance(node, ast.ImportFrom)}
                 for file, (_, tree) in self.files.items()}
        while needs:
            done = [file for file, those in needs.items() if not those & set(needs)]
            self.assertTrue(done, needs)
            needs = {file: those for file, those in needs.items() if file not in done}

    def test_no_name_is_a_method_and_an_attribute(self):
        methods, attributes, read = set(), set(), set()
        for node, _ in self.each(ast.ClassDef):
            methods |= {row.name for row in node.body if isinstance(row, ast.FunctionDef)}
        for node, _ in self.each(ast.Attribute):
            (read if isinstance(node.ctx, ast.Load) else attributes).add(node.attr)
        self.assertEqual(methods & attributes, set())
        self.assertEqual(attributes & METHODS, set())
        self.assertEqual(read - methods - attributes - METHODS, set())

    def test_what_is_iterated_at_once_is_not_kept(self):
        takers = {"list", "tuple", "dict", "sorted", "sum", "any", "all", "enumerate", "zip", "min", "max"}
        for file, (_, tree) in self.files.items():
            good = set()
            for node in ast.walk(tree):
                if isinstance(node, (ast.For, ast.comprehension)):
                    good.add(node.iter)
                elif isinstance(node, ast.Call) and isinstance(node.func, ast.Name) and node.func.id in takers:
                    good.update(node.args[:1])
            for node in ast.walk(tree):
                if isinstance(node, ast.Call):
                    name = node.func.id if isinstance(node.func, ast.Name) else getattr(node.func, "attr", "")
                    if name in ("range", "zip", "enumerate", "reversed", "items", "keys", "values"):
                        self.assertIn(node, good, f"{file}, line {node.lineno}")

    def test_what_stands_at_module_level(self):
        for file, (_, tree) in self.files.items():
            self.assertIsInstance(tree.body[0], ast.Expr, file)
            for row in tree.body[1:]:
                self.assertIsInstance(row, (ast.ImportFrom, ast.FunctionDef, ast.ClassDef, ast.Assign), file)

    def test_what_is_raised_is_made_on_the_spot(self):
        for node, where in self.each(ast.Raise):
            self.assertTrue(isinstance(node.exc, ast.Call) and isinstance(node.exc.func, ast.Name), where)


if __name__ == "__main__":
    unittest.main()
