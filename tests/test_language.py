"""The form of the package's own files, as far as a file's signs and its syntax tell it."""

import ast
import builtins
import pathlib
import re
import unittest

PACKAGE = pathlib.Path(__file__).resolve().parent.parent / "signsumsdesk"
OWN = ("len range enumerate zip min max sum abs sorted reversed int str bool list tuple dict set frozenset isinstance "
       "ord repr any all divmod Exception ValueError TypeError KeyError IndexError LookupError ZeroDivisionError "
       "ArithmeticError OverflowError RuntimeError NotImplementedError AttributeError StopIteration").split()
METHODS = ("append clear copy count endswith extend find get index insert isalnum isalpha isdigit islower isspace "
           "isupper items join keys ljust lower lstrip partition pop remove replace reverse rfind rjust rpartition "
           "rsplit rstrip setdefault split splitlines startswith strip update upper values zfill bit_length").split()
WORDS = ("type typing typing_extensions enum Enum IntEnum StrEnum Flag IntFlag Generic Protocol ABC ABCMeta namedtuple "
         "NamedTuple TypedDict TYPE_CHECKING abstractmethod").split()
UNUSED = ("register mro elements open input version_info with_traceback add_note attrgetter breakpoint builtins compile "
          "copyright credits delattr dir eval exec exit gc getattr globals hasattr help id importlib license locals "
          "methodcaller os quit setattr super type vars sys").split()
NODES = ("Module Expr Constant ImportFrom alias FunctionDef arguments arg ClassDef Assign AugAssign If While For Return "
         "Break Continue Pass Raise Try ExceptHandler Name Load Store Attribute Subscript Slice List Tuple Dict Set Call "
         "keyword BinOp UnaryOp BoolOp Compare IfExp ListComp comprehension Lambda JoinedStr FormattedValue And Or Not "
         "USub Invert Add Sub Mult FloorDiv Mod Pow BitAnd BitOr BitXor LShift RShift Eq NotEq Lt LtE Gt GtE In NotIn "
         "Is IsNot").split()


def files():
    return sorted(path for path in PACKAGE.rglob("*") if "__pycache__" not in path.parts)


def trees():
    return [(path, ast.parse(path.read_text(encoding="utf-8"))) for path in files()]


def nodes(kind):
    return [(f"{path.name}:{getattr(node, 'lineno', 0)}", node) for path, tree in trees()
            for node in ast.walk(tree) if isinstance(node, kind)]


def bound_names():
    """Every name that is given a meaning, with where that is."""
    found = [(place, node.name) for place, node in nodes((ast.FunctionDef, ast.ClassDef))]
    found += [(place, node.arg) for place, node in nodes(ast.arg)]
    found += [(place, node.id) for place, node in nodes(ast.Name) if isinstance(node.ctx, ast.Store)]
    found += [(place, node.attr) for place, node in nodes(ast.Attribute) if isinstance(node.ctx, ast.Store)]
    return found


class Signs(unittest.TestCase):
    def test_files(self):
        self.assertIn(PACKAGE / "__init__.py", files())
        for path in files():
            self.assertTrue(path.is_file() and path.suffix == ".py", path)
            self.assertTrue(path.name == "__init__.py" or re.fullmatch(r"[a-z][a-z0-9_]*", path.stem), path)
            self.assertNotIn(path.stem, dir(builtins) + WORDS)

    def test_size_and_signs(self):
        for path in files():
            lines = path.read_text(encoding="utf-8").split("\n")
            self.assertLessEqual(len(lines), 400, path)
            for line in lines:
                self.assertLessEqual(len(line), 120, path)
                self.assertTrue(all(" " <= sign <= "~" for sign in line), (path, line))
        for place, node in nodes(ast.FunctionDef):
            self.assertLessEqual(node.end_lineno - node.lineno + 1, 40, place)

    def test_words(self):
        for path in files():
            text = path.read_text(encoding="utf-8")
            self.assertEqual(set(re.findall(r"\w+", text)) & set(WORDS), set(), path)
            self.assertIsNone(re.search("dataclass|overload|contextmanager", text), path)


class Syntax(unittest.TestCase):
    def test_nodes(self):
        for place, node in nodes(ast.AST):
            self.assertIn(node.__class__.__name__, NODES, place)

    def test_imports(self):
        drawn = {}
        for path, tree in trees():
            rows = [node for node in ast.walk(tree) if isinstance(node, ast.ImportFrom)]
            self.assertTrue(all(node in tree.body and node.level == 0 for node in rows), path)
            drawn[path.stem] = [node.module for node in rows]
            for node in rows:
                self.assertRegex(node.module, r"^signsumsdesk\.[a-z]+$", path)
                source = ast.parse((PACKAGE / (node.module.split(".")[1] + ".py")).read_text(encoding="utf-8"))
                defined = [name for body in source.body for name in defined_by(body)]
                for alias in node.names:
                    self.assertIsNone(alias.asname)
                    self.assertIn(alias.name, defined, path)
        self.no_circle({name: [module.split(".")[1] for module in modules] for name, modules in drawn.items()})

    def no_circle(self, drawn):
        left = dict(drawn)
        while left:
            free = [name for name in left if not set(left[name]) & set(left)]
            self.assertTrue(free, left)
            for name in free:
                left.pop(name)

    def test_names(self):
        allowed = ("__init__", "__eq__", "__repr__", "__str__", "__len__")
        for place, name in bound_names():
            self.assertTrue(name in allowed or re.fullmatch(r"[A-Za-z][A-Za-z0-9_]*", name), (place, name))
            self.assertNotIn(name, dir(builtins) + UNUSED, place)

    def test_pythons_own_names(self):
        for place, node in nodes(ast.Name):
            if node.id in dir(builtins):
                self.assertIn(node.id, OWN, place)

    def test_top_of_a_module(self):
        for path, tree in trees():
            self.assertIsNotNone(ast.get_docstring(tree), path)
            for body in tree.body[1:]:
                self.assertIsInstance(body, (ast.ImportFrom, ast.FunctionDef, ast.ClassDef, ast.Assign), path)
                if isinstance(body, ast.Assign):
                    ast.literal_eval(body.value)
            bound = [name for body in tree.body for name in defined_by(body)]
            bound += [alias.name for body in tree.body if isinstance(body, ast.ImportFrom) for alias in body.names]
            self.assertEqual(len(bound), len(set(bound)), path)

    def test_functions(self):
        for place, node in nodes(ast.FunctionDef):
            given = node.args
            self.assertFalse(given.vararg or given.kwarg or given.kwonlyargs or given.posonlyargs, place)
            self.assertFalse(node.decorator_list or node.returns or any(arg.annotation for arg in given.args), place)

    def test_locals_are_not_called_like_imports_or_classes(self):
        for path, tree in trees():
            taken = [alias.name for body in tree.body if isinstance(body, ast.ImportFrom) for alias in body.names]
            taken += [body.name for body in tree.body if isinstance(body, ast.ClassDef)]
            for node in ast.walk(tree):
                if isinstance(node, ast.arg):
                    self.assertNotIn(node.arg, taken, path)
                if isinstance(node, ast.Name) and isinstance(node.ctx, ast.Store):
                    self.assertNotIn(node.id, taken, path)

    def test_assignments_and_loops(self):
        for place, node in nodes(ast.Assign):
            self.assertEqual(len(node.targets), 1, place)
        for place, node in nodes((ast.For, ast.While)):
            self.assertEqual(node.orelse, [], place)
        for place, node in nodes(ast.ListComp):
            self.assertEqual(len(node.generators), 1, place)
            self.assertLessEqual(len(node.generators[0].ifs), 1, place)
        for place, node in nodes(ast.Constant):
            self.assertIsInstance(node.value, (int, str, bool, None.__class__), place)
        for place, node in nodes(ast.Expr):
            self.assertTrue(isinstance(node.value, ast.Call) or isinstance(node.value.value, str), place)

    def test_methods_and_values_of_objects(self):
        methods = [body.name for place, node in nodes(ast.ClassDef) for body in node.body
                   if isinstance(body, ast.FunctionDef)]
        values = [node.attr for place, node in nodes(ast.Attribute) if isinstance(node.ctx, ast.Store)]
        self.assertEqual(set(methods) & set(values), set())
        for place, node in nodes(ast.Attribute):
            self.assertIn(node.attr, METHODS + methods + values, place)


def defined_by(body):
    if isinstance(body, (ast.FunctionDef, ast.ClassDef)):
        return [body.name]
    if isinstance(body, ast.Assign):
        return [target.id for target in body.targets]
    return []


if __name__ == "__main__":
    unittest.main()
