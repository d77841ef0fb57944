"""The rules of the subset of Python that can be seen by looking at the files of the package."""

import ast
import builtins
import os
import unittest

FOLDER = os.path.join(os.path.dirname(os.path.dirname(os.path.abspath(__file__))), "bornroots")

BUILTINS = set("""len range enumerate zip min max sum abs sorted reversed int str bool list tuple dict set isinstance
ord repr any all divmod ValueError KeyError IndexError ZeroDivisionError""".split())

METHODS = set("""append clear copy count endswith extend find get index insert isalnum isalpha isdigit islower isspace
isupper items join keys ljust lower lstrip partition pop remove replace reverse rfind rjust rpartition rsplit rstrip
setdefault split splitlines startswith strip update upper values zfill bit_length""".split())

LIBRARY = {"itertools": ("combinations",)}

STATEMENTS = (ast.FunctionDef, ast.ClassDef, ast.Assign, ast.AugAssign, ast.If, ast.While, ast.For, ast.Return,
              ast.Break, ast.Continue, ast.Pass, ast.Raise, ast.Delete, ast.Try, ast.Expr, ast.ImportFrom)

BARRED = ("_wall", "_pe_", "_dcw_", "_enum_", "_cm_", "_twin_re_", "_lay_", "_law_", "_stub_", "_sre", "_cold",
          "_tuplegetter", "_outside", "_record", "_written_out", "_member_names", "__")


def file_names():
    return sorted(name for name in os.listdir(FOLDER) if name != "__pycache__")


def text_of(name):
    with open(os.path.join(FOLDER, name), encoding="utf-8", newline="") as file:
        return file.read()


def tree_of(name):
    return ast.parse(text_of(name))


def nodes(*kinds):
    """(file name, node) of all nodes of these kinds in the package."""
    return [(name, node) for name in file_names() for node in ast.walk(tree_of(name)) if isinstance(node, kinds)]


def bound_in(function):
    """The names of the parameters and local variables of a function."""
    given = function.args
    names = [arg.arg for arg in [*given.posonlyargs, *given.args, *given.kwonlyargs]]
    stored = [node.id for node in ast.walk(function) if isinstance(node, ast.Name) and isinstance(node.ctx, ast.Store)]
    return names + stored


class FilesTest(unittest.TestCase):
    def test_only_plain_files(self):
        for name in file_names():
            self.assertRegex(name, r"^[a-z_][a-z0-9_]*\.py$")
        self.assertLessEqual(len(file_names()), 100)

    def test_characters_and_sizes(self):
        for name in file_names():
            text = text_of(name)
            self.assertTrue(all(" " <= sign <= "~" or sign == "\n" for sign in text), name)
            lines = text.splitlines()
            self.assertLessEqual(len(lines), 399, name)
            self.assertLessEqual(max(map(len, lines)), 120, name)

    def test_functions_have_at_most_40_lines(self):
        for name, node in nodes(ast.FunctionDef):
            self.assertLessEqual(node.end_lineno - node.lineno + 1, 40, (name, node.name))


class ImportsTest(unittest.TestCase):
    def imports(self, name):
        """The imports from the package."""
        told = [node for node in tree_of(name).body if isinstance(node, ast.ImportFrom)]
        return [node for node in told if node.module not in LIBRARY]

    def test_imports_name_the_file_that_defines(self):
        for name, node in nodes(ast.Import, ast.ImportFrom):
            self.assertIsInstance(node, ast.ImportFrom, name)
            if node.module in LIBRARY:
                self.assertEqual([(alias.name in LIBRARY[node.module], alias.asname) for alias in node.names],
                                 [(True, None)] * len(node.names), name)
                continue
            package, _, module = node.module.partition(".")
            self.assertEqual((package, node.level), ("bornroots", 0), name)
            defined = []
            for made in tree_of(module + ".py").body:
                if isinstance(made, ast.Assign):
                    defined.append(made.targets[0].id)
                elif isinstance(made, (ast.FunctionDef, ast.ClassDef)):
                    defined.append(made.name)
            for alias in node.names:
                self.assertIsNone(alias.asname, name)
                self.assertIn(alias.name, defined, name)

    def test_imports_are_used(self):
        for name in file_names():
            used = [node.id for node in ast.walk(tree_of(name)) if isinstance(node, ast.Name)]
            for node in self.imports(name):
                for alias in node.names:
                    self.assertIn(alias.name, used, name)

    def test_no_ring_of_imports(self):
        left = {name: [node.module.split(".")[1] + ".py" for node in self.imports(name)] for name in file_names()}
        while left:
            free = [name for name in left if not any(other in left for other in left[name])]
            self.assertTrue(free, sorted(left))
            for name in free:
                del left[name]


class CodeTest(unittest.TestCase):
    def test_module_level(self):
        for name in file_names():
            told = []
            for at, node in enumerate(tree_of(name).body):
                if isinstance(node, ast.Expr):
                    self.assertEqual(at, 0, name)
                    self.assertIsInstance(node.value, ast.Constant, name)
                elif isinstance(node, ast.Assign):
                    ast.literal_eval(node.value)
                    told += [target.id for target in node.targets]
                elif isinstance(node, ast.ImportFrom):
                    told += [alias.name for alias in node.names]
                else:
                    self.assertIsInstance(node, (ast.FunctionDef, ast.ClassDef), name)
                    told.append(node.name)
            self.assertEqual(len(told), len(set(told)), name)

    def test_statements(self):
        for name, node in nodes(ast.stmt):
            self.assertIsInstance(node, STATEMENTS, (name, node.lineno))

    def test_no_decorators_no_division_and_is_beside_constants_alone(self):
        for name, node in nodes(ast.FunctionDef, ast.ClassDef):
            self.assertEqual(node.decorator_list, [], (name, node.name))
        for name, node in nodes(ast.BinOp, ast.AugAssign):
            self.assertNotIsInstance(node.op, (ast.Div, ast.Pow, ast.MatMult), (name, node.lineno))
        for name, node in nodes(ast.Compare):
            for sign, right in zip(node.ops, node.comparators):
                if isinstance(sign, (ast.Is, ast.IsNot)):
                    self.assertIsInstance(right, ast.Constant, (name, node.lineno))

    def test_constants(self):
        for name, node in nodes(ast.Constant):
            self.assertNotIsInstance(node.value, (float, complex, bytes), (name, node.lineno))
            if isinstance(node.value, str):
                self.assertNotIn("%", node.value, (name, node.lineno))

    def test_builtins_and_methods(self):
        own = {node.name for _, node in nodes(ast.FunctionDef)}
        for name, node in nodes(ast.Name):
            if hasattr(builtins, node.id):
                self.assertIn(node.id, BUILTINS, (name, node.lineno))
                self.assertIsInstance(node.ctx, ast.Load, (name, node.lineno))
        for name, node in nodes(ast.Call):
            if isinstance(node.func, ast.Attribute):
                self.assertIn(node.func.attr, METHODS | own, (name, node.lineno))

    def test_names(self):
        for name, function in nodes(ast.FunctionDef):
            made = [node for node in tree_of(name).body if isinstance(node, (ast.ImportFrom, ast.ClassDef))]
            taken = [node.name for node in made if isinstance(node, ast.ClassDef)]
            taken += [alias.name for node in made if isinstance(node, ast.ImportFrom) for alias in node.names]
            for word in bound_in(function):
                self.assertNotIn(word, taken, (name, function.name))
                self.assertFalse(hasattr(builtins, word) or word.startswith(BARRED), (name, function.name, word))
            if function.name != "__init__":
                self.assertFalse(function.name.startswith(BARRED), (name, function.name))
                self.assertFalse(hasattr(builtins, function.name), (name, function.name))

    def test_sets_are_used_on_the_spot(self):
        for name, node in nodes(ast.Assign, ast.Return, ast.For):
            value = node.iter if isinstance(node, ast.For) else node.value
            is_call = isinstance(value, ast.Call) and isinstance(value.func, ast.Name)
            self.assertFalse(isinstance(value, (ast.Set, ast.SetComp)), (name, node.lineno))
            self.assertFalse(is_call and value.func.id == "set", (name, node.lineno))


if __name__ == "__main__":
    unittest.main()
