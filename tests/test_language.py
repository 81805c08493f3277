"""The package keeps to the subset of Python that it is written in, as far as its text shows it."""

import ast
import pathlib
import re
import unittest

FOLDER = pathlib.Path(__file__).resolve().parent.parent / "calmblanks"
LIBRARY = {"heapq": {"heappush", "heappop", "heapify", "heapreplace", "heappushpop"},
           "math": {"gcd", "lcm", "isqrt", "comb", "perm", "factorial"}}
BUILTINS = set("""len range enumerate zip min max sum abs sorted reversed int str bool list tuple dict set isinstance
ord repr any all divmod ValueError KeyError""".split())
PYTHONS_OWN = set(dir(__builtins__) if not isinstance(__builtins__, dict) else __builtins__)
METHODS = set("""append clear copy count endswith extend find get index insert isalnum isalpha isdigit islower isspace
isupper items join keys ljust lower lstrip partition pop remove replace reverse rfind rjust rpartition rsplit rstrip
setdefault split splitlines startswith strip update upper values zfill bit_length add discard""".split())
BARRED = set("""register mro elements open input law version_info with_traceback add_note attrgetter breakpoint builtins
compile copyright credits delattr dir eval exec exit gc getattr globals hasattr help id importlib license locals
methodcaller os quit setattr super type vars sys typing typing_extensions enum Enum IntEnum StrEnum Flag IntFlag Generic
Protocol ABC ABCMeta namedtuple NamedTuple TypedDict abstractmethod""".split())
STATEMENTS = (ast.FunctionDef, ast.ClassDef, ast.ImportFrom, ast.Assign, ast.AugAssign, ast.If, ast.While, ast.For,
              ast.Return, ast.Break, ast.Continue, ast.Pass, ast.Raise, ast.Assert, ast.Delete, ast.Try, ast.Expr)
DOUBLE = {"__init__", "__eq__", "__len__", "__str__", "__repr__"}
TAKERS_OF_GENERATORS = {"list", "tuple", "dict"}
PLAIN = (ast.Constant, ast.List, ast.Tuple, ast.Dict, ast.UnaryOp, ast.USub, ast.Load, ast.Name, ast.BinOp, ast.operator)


def files():
    return sorted(FOLDER.glob("*.py"))


def text_of(path):
    return path.read_bytes().decode("utf-8")


def trees():
    return [(path.name, ast.parse(text_of(path))) for path in files()]


def functions(tree):
    return [node for node in ast.walk(tree) if isinstance(node, ast.FunctionDef)]


def is_docstring(node):
    return isinstance(node, ast.Expr) and isinstance(node.value, ast.Constant) and isinstance(node.value.value, str)


def bound_at_top(tree):
    names = []
    for node in tree.body:
        if isinstance(node, ast.ImportFrom):
            names += [alias.asname or alias.name for alias in node.names]
        elif isinstance(node, (ast.FunctionDef, ast.ClassDef)):
            names.append(node.name)
        elif isinstance(node, ast.Assign):
            names += [target.id for target in node.targets]
    return names


def bound_in(function):
    names = [argument.arg for own in ast.walk(function) if isinstance(own, (ast.FunctionDef, ast.Lambda))
             for argument in own.args.args]
    names += [node.name for node in ast.walk(function) if isinstance(node, ast.ExceptHandler) and node.name]
    return names + [node.id for node in ast.walk(function) if isinstance(node, ast.Name)
                    and isinstance(node.ctx, (ast.Store, ast.Del))]


def classes():
    return [node for _, tree in trees() for node in tree.body if isinstance(node, ast.ClassDef)]


def own_methods():
    return {function.name for kind in classes() for function in functions(kind)} - DOUBLE


def own_attributes():
    """The names of all attributes that are assigned anywhere."""
    return {node.attr for _, tree in trees() for node in ast.walk(tree)
            if isinstance(node, ast.Attribute) and isinstance(node.ctx, ast.Store)}


class Language(unittest.TestCase):
    def test_files(self):
        names = {path.relative_to(FOLDER).as_posix() for path in FOLDER.rglob("*") if "__pycache__" not in path.parts}
        self.assertEqual(names, {path.name for path in files()})
        self.assertIn("__init__.py", names)
        self.assertTrue(all(re.fullmatch("[a-z_0-9]+[.]py", name) for name in names))

    def test_sizes_and_characters(self):
        for path in files():
            text = text_of(path)
            lines = text.split("\n")
            self.assertLessEqual(len(lines) - 1, 399, path.name)
            self.assertTrue(all(len(line) <= 120 for line in lines), path.name)
            self.assertTrue(all(sign == "\n" or " " <= sign <= "~" for sign in text), path.name)
            for function in functions(ast.parse(text)):
                self.assertLessEqual(function.end_lineno - function.lineno + 1, 40, function.name)

    def test_top_of_each_file(self):
        for name, tree in trees():
            top = bound_at_top(tree)
            self.assertEqual(len(top), len(set(top)), name)
            behind_imports = False
            for place, node in enumerate(tree.body):
                if place == 0:
                    self.assertTrue(is_docstring(node), name)
                elif isinstance(node, ast.ImportFrom):
                    self.assertFalse(behind_imports, name)
                else:
                    behind_imports = True
                    self.assertIsInstance(node, (ast.FunctionDef, ast.ClassDef, ast.Assign), name)
                    if isinstance(node, ast.Assign):
                        self.assertTrue(all(isinstance(part, PLAIN) for part in ast.walk(node.value)), name)

    def test_imports(self):
        tops = {name[:-3]: tree for name, tree in trees()}
        for name, tree in tops.items():
            for node in ast.walk(tree):
                self.assertNotIsInstance(node, ast.Import, name)
                if isinstance(node, ast.ImportFrom):
                    self.assertEqual(node.level, 0)
                    names = {alias.name for alias in node.names}
                    self.assertTrue(all(alias.asname is None for alias in node.names), name)
                    if node.module in LIBRARY:
                        self.assertLessEqual(names, LIBRARY[node.module])
                        continue
                    package, file = node.module.split(".")
                    self.assertEqual(package, "calmblanks")
                    own = [item for item in tops[file].body if not isinstance(item, ast.ImportFrom)]
                    self.assertLessEqual(names, set(bound_at_top(ast.Module(own, []))), name)

    def test_every_import_is_used(self):
        for name, tree in trees():
            used = {node.id for node in ast.walk(tree) if isinstance(node, ast.Name)}
            imported = {alias.name for node in tree.body if isinstance(node, ast.ImportFrom) for alias in node.names}
            self.assertEqual(imported - used, set(), name)

    def test_no_two_files_import_from_each_other(self):
        left = {"calmblanks." + name[:-3]: {node.module for node in tree.body if isinstance(node, ast.ImportFrom)
                                            and node.module not in LIBRARY} for name, tree in trees()}
        while left:
            free = [name for name, wanted in left.items() if not wanted & set(left)]
            self.assertTrue(free, left)
            for name in free:
                del left[name]

    def test_statements(self):
        for name, tree in trees():
            for node in ast.walk(tree):
                if isinstance(node, ast.stmt):
                    self.assertIsInstance(node, STATEMENTS, f"{name}: {node.lineno}")
                if isinstance(node, (ast.FunctionDef, ast.ClassDef)):
                    self.assertEqual(node.decorator_list, [], name)
                if isinstance(node, ast.FunctionDef):
                    self.assertIsNone(node.returns)
                    self.assertTrue(all(argument.annotation is None for argument in node.args.args))
                if isinstance(node, ast.Expr) and not is_docstring(node):
                    self.assertIsInstance(node.value, ast.Call, f"{name}: {node.lineno}")
                if isinstance(node, ast.Raise):
                    self.assertIsInstance(node.exc, ast.Call)

    def test_expressions(self):
        for name, tree in trees():
            for node in ast.walk(tree):
                place = f"{name}: {getattr(node, 'lineno', 0)}"
                self.assertNotIsInstance(node, (ast.Div, ast.MatMult, ast.Await, ast.Yield, ast.JoinedStr, ast.Set), place)
                if isinstance(node, ast.Constant):
                    self.assertIn(node.value.__class__, (int, str, bool, None.__class__), place)
                    if isinstance(node.value, str):
                        self.assertNotIn("%", node.value, place)
                if isinstance(node, (ast.Is, ast.IsNot)):
                    continue
                if isinstance(node, ast.Compare) and isinstance(node.ops[0], (ast.Is, ast.IsNot)):
                    self.assertIsInstance(node.comparators[0], ast.Constant, place)
                if isinstance(node, ast.Attribute) and isinstance(node.ctx, ast.Store):
                    self.assertIsInstance(node.value, ast.Name, place)
                    self.assertNotIn(node.value.id, bound_at_top(tree), place)

    def test_generators_and_sets_stand_where_they_may(self):
        for name, tree in trees():
            for node in ast.walk(tree):
                taken = node.args if isinstance(node, ast.Call) and isinstance(node.func, ast.Name) else []
                for part in ast.iter_child_nodes(node):
                    if isinstance(part, ast.GeneratorExp):
                        self.assertTrue(part in taken and node.func.id in TAKERS_OF_GENERATORS, name)
                    is_set = isinstance(part, ast.Call) and isinstance(part.func, ast.Name) and part.func.id == "set"
                    if is_set or isinstance(part, ast.SetComp):
                        self.assertTrue(part in taken and node.func.id in ("sorted", "len"), name)
                        self.assertEqual(node.keywords, [])

    def test_names(self):
        for name, tree in trees():
            top = bound_at_top(tree)
            barred_inside = {alias.name for node in tree.body if isinstance(node, ast.ImportFrom) for alias in node.names}
            barred_inside |= {node.name for node in tree.body if isinstance(node, ast.ClassDef)}
            for bound in top:
                self.assertTrue(bound not in PYTHONS_OWN | BARRED and not bound.startswith("_"), f"{name}: {bound}")
            for function in functions(tree):
                if function.name.startswith("_"):
                    self.assertIn(function.name, DOUBLE)
                for bound in bound_in(function):
                    self.assertNotIn(bound, PYTHONS_OWN | BARRED | barred_inside, f"{name}: {function.name}")
                    self.assertTrue(bound == "_" or re.fullmatch("[a-z][a-z0-9_]*", bound), f"{name}: {bound}")

    def test_what_is_read(self):
        for name, tree in trees():
            top = set(bound_at_top(tree))
            for function in functions(tree):
                known = top | set(bound_in(function)) | BUILTINS
                for node in ast.walk(function):
                    if isinstance(node, ast.Name) and isinstance(node.ctx, ast.Load):
                        self.assertIn(node.id, known, f"{name}: {node.lineno}")
                        self.assertNotEqual(node.id, "_", f"{name}: {node.lineno}")

    def test_calls(self):
        own_names = own_methods()
        for name, tree in trees():
            for node in ast.walk(tree):
                if isinstance(node, ast.Call):
                    self.assertFalse(any(isinstance(own, ast.Starred) for own in node.args), f"{name}: {node.lineno}")
                    if isinstance(node.func, ast.Attribute):
                        self.assertIn(node.func.attr, METHODS | own_names, f"{name}: {node.lineno}")
                        self.assertEqual(node.keywords, [], f"{name}: {node.lineno}")
                    else:
                        self.assertIsInstance(node.func, ast.Name, f"{name}: {node.lineno}")

    def test_methods_and_attributes(self):
        self.assertEqual(own_methods() & own_attributes(), set())
        self.assertLessEqual(own_methods() & METHODS, {"add", "copy"})
        known = own_methods() | own_attributes() | METHODS
        for name, tree in trees():
            for node in ast.walk(tree):
                if isinstance(node, ast.Attribute) and not node.attr.startswith("__"):
                    self.assertIn(node.attr, known, f"{name}: {node.lineno}")

    def test_handlers_name_one_own_error_each(self):
        errors = [kind.name for kind in classes() if kind.bases]
        for name, tree in trees():
            for node in ast.walk(tree):
                if isinstance(node, ast.ExceptHandler):
                    self.assertIn(node.type.id, errors, f"{name}: {node.lineno}")

    def test_tables_at_the_top_are_indexed_or_searched_alone(self):
        for name, tree in trees():
            tables = [node.targets[0].id for node in tree.body
                      if isinstance(node, ast.Assign) and isinstance(node.value, (ast.Dict, ast.List))]
            searched = [node.value for node in ast.walk(tree) if isinstance(node, ast.Subscript)]
            searched += [node.comparators[0] for node in ast.walk(tree) if isinstance(node, ast.Compare)]
            for node in ast.walk(tree):
                if isinstance(node, ast.Name) and node.id in tables and isinstance(node.ctx, ast.Load):
                    self.assertIn(node, searched, f"{name}: {node.lineno}")

    def test_equality_has_the_one_form(self):
        for name, tree in trees():
            for kind in [node for node in tree.body if isinstance(node, ast.ClassDef)]:
                for method in [node for node in functions(kind) if node.name == "__eq__"]:
                    self.assertEqual(len(method.body), 1)
                    test = method.body[0].value
                    self.assertIsInstance(test.op, ast.And)
                    self.assertEqual(ast.unparse(test.values[0]), f"isinstance(other, {kind.name})")
                    for part in test.values[1:]:
                        self.assertRegex(ast.unparse(part), r"^self\.(\w+) == other\.\1$")


if __name__ == "__main__":
    unittest.main()
