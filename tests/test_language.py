"""Whether the files of the package keep to the rules of the language that a look at their syntax can tell."""

import ast
import builtins
import io
import re
import tokenize
import unittest
import warnings
from pathlib import Path

FOLDER = Path(__file__).resolve().parent.parent / "gapsame"
LIBRARY = {
    "heapq": "heappush heappop heapify heapreplace heappushpop", "math": "gcd lcm isqrt comb perm factorial",
    "itertools": "product combinations permutations chain accumulate pairwise islice zip_longest",
    "collections": "defaultdict", "__future__": "annotations",
}
BUILTINS = set("""
    len range enumerate zip min max sum abs sorted reversed int str bool bytes list tuple dict set frozenset isinstance
    ord repr any all divmod pow getattr hasattr setattr map iter next super property staticmethod classmethod
    Exception ValueError TypeError KeyError IndexError LookupError ZeroDivisionError ArithmeticError OverflowError
    RuntimeError NotImplementedError AttributeError StopIteration NotImplemented""".split())
METHODS = set("""
    append clear copy count endswith extend find get index insert isalnum isalpha isdigit islower isspace isupper items
    join keys ljust lower lstrip partition pop remove replace reverse rfind rjust rpartition rsplit rstrip setdefault
    split splitlines startswith strip update upper values zfill bit_length capitalize swapcase casefold expandtabs
    removeprefix removesuffix rindex isascii isdecimal isnumeric istitle isidentifier isprintable add discard
    __init__""".split())
DUNDERS = set("""
    __init__ __eq__ __repr__ __str__ __len__ __enter__ __exit__ __call__ __iter__ __lt__ __le__ __gt__ __ge__ __ne__
    __bool__ __contains__ __getitem__ __setitem__ __neg__ __abs__ __add__ __sub__ __mul__""".split())
BARRED_WORDS = set("""
    register mro elements open input law version_info with_traceback add_note type typing typing_extensions enum Enum
    IntEnum StrEnum Flag IntFlag Generic Protocol ABC ABCMeta namedtuple NamedTuple TypedDict TYPE_CHECKING
    abstractmethod dataclass overload contextmanager""".split())
BARRED_NODES = (ast.Global, ast.AsyncFunctionDef, ast.AsyncFor, ast.AsyncWith, ast.Await, ast.Div, ast.MatMult,
                ast.TryStar)


class Language(unittest.TestCase):
    @classmethod
    def setUpClass(cls):
        cls.texts = {path.stem: path.read_text(encoding="utf-8") for path in sorted(FOLDER.glob("*.py"))}
        cls.trees = {name: ast.parse(text) for name, text in cls.texts.items()}
        for tree in cls.trees.values():
            for node in ast.walk(tree):
                for child in ast.iter_child_nodes(node):
                    child.above = node

    def each(self, *kinds):
        """Each node of these kinds, with the place at which it stands."""
        for name, tree in self.trees.items():
            for node in ast.walk(tree):
                if isinstance(node, kinds):
                    yield f"{name}.py:{getattr(node, 'lineno', 0)}", node

    def own_names(self):
        """The names of all functions, methods and classes of the package."""
        return {node.name for _, node in self.each(ast.FunctionDef, ast.ClassDef)}

    def test_the_folder_holds_files_of_plain_names_alone(self):
        for path in FOLDER.iterdir():
            if path.name != "__pycache__":
                self.assertRegex(path.name, r"\A(__init__|__main__|[a-z][a-z0-9_]*)\.py\Z")
        self.assertIn("__init__", self.texts)

    def test_sizes_and_characters(self):
        for name, text in self.texts.items():
            self.assertLessEqual(len(text.split("\n")) - 1, 399, name)
            self.assertEqual(re.findall(r"[^\n -~]", text), [], name)
            for number, line in enumerate(text.split("\n")):
                self.assertLessEqual(len(line), 120, f"{name}.py:{number + 1}")
        for place, node in self.each(ast.FunctionDef):
            self.assertLessEqual(node.end_lineno - node.lineno + 1, 40, place)

    def test_no_warnings(self):
        with warnings.catch_warnings():
            warnings.simplefilter("error")
            for name, text in self.texts.items():
                compile(text, name, "exec")

    def test_imports(self):
        for place, node in self.each(ast.Import):
            self.fail(f"{place}: import of a module")
        for place, node in self.each(ast.ImportFrom):
            self.assertIsInstance(node.above, ast.Module, place)
            self.assertEqual(node.level, 0, place)
            for alias in node.names:
                self.assertIsNone(alias.asname, place)
                if node.module in LIBRARY:
                    self.assertIn(alias.name, LIBRARY[node.module].split(), place)
                else:
                    self.assertIn(alias.name, self.defined_in(node.module), place)

    def defined_in(self, module):
        package, name = module.split(".")
        self.assertEqual(package, "gapsame")
        body = self.trees[name].body
        named = [node.name for node in body if isinstance(node, (ast.FunctionDef, ast.ClassDef))]
        return named + [node.targets[0].id for node in body if isinstance(node, ast.Assign)]

    def test_no_two_files_import_from_each_other(self):
        behind = {name: {node.module.split(".")[1] for node in tree.body
                         if isinstance(node, ast.ImportFrom) and node.module.startswith("gapsame.")}
                  for name, tree in self.trees.items()}
        while behind:
            free = [name for name, wanted in behind.items() if not wanted & set(behind)]
            self.assertTrue(free, behind)
            for name in free:
                del behind[name]

    def test_module_level(self):
        for name, tree in self.trees.items():
            names, imports_end = [], False
            for at, node in enumerate(tree.body):
                place = f"{name}.py:{node.lineno}"
                if isinstance(node, ast.Expr):
                    self.assertTrue(at == 0 and isinstance(node.value, ast.Constant), place)
                elif isinstance(node, ast.ImportFrom):
                    self.assertFalse(imports_end, place)
                    names.extend([alias.name for alias in node.names])
                else:
                    imports_end = True
                    self.assertIsInstance(node, (ast.FunctionDef, ast.ClassDef, ast.Assign), place)
                    names.append(node.targets[0].id if isinstance(node, ast.Assign) else node.name)
            self.assertEqual(len(names), len(set(names)), name)

    def test_definitions(self):
        for place, node in self.each(ast.FunctionDef, ast.ClassDef):
            told = [item.id if isinstance(item, ast.Name) else getattr(item, "attr", "") for item in node.decorator_list]
            self.assertLessEqual(set(told), {"staticmethod", "classmethod", "property", "setter"}, place)
            if told:
                self.assertIsInstance(node.above, ast.ClassDef, place)
            if node.name.startswith("__"):
                self.assertIn(node.name, DUNDERS, place)
        for place, node in self.each(ast.ClassDef):
            names = [item.name for item in node.body if isinstance(item, ast.FunctionDef)]
            self.assertEqual(len(names), len(set(names)), place)

    def test_barred_signs(self):
        for place, node in self.each(*BARRED_NODES):
            self.fail(f"{place}: {node}")
        for place, node in self.each(ast.Constant):
            self.assertNotIsInstance(node.value, (float, complex), place)
        for place, node in self.each(ast.Compare):
            for sign, side in zip(node.ops, node.comparators):
                if isinstance(sign, (ast.Is, ast.IsNot)):
                    self.assertIn(getattr(side, "value", side), (None, True, False), place)

    def test_generators_and_sets_stand_where_they_may(self):
        for place, node in self.each(ast.GeneratorExp):
            self.assertIsInstance(node.above, ast.Call, place)
            told = node.above.func
            # Classes of the package have `__eq__`, so any, all, min, max, sum and sorted take lists.
            self.assertTrue(getattr(told, "attr", "") == "join" or told.id in ("list", "tuple", "dict"), place)
        for place, node in self.each(ast.Set, ast.SetComp, ast.Call):
            if isinstance(node, ast.Call) and getattr(node.func, "id", "") != "set":
                continue
            above = node.above
            is_counted = isinstance(above, ast.Call) and getattr(above.func, "id", "") in ("len", "sorted")
            is_kept = isinstance(above, ast.Assign) and isinstance(above.targets[0], ast.Name)
            is_joined = isinstance(above, ast.BinOp) and isinstance(above.op, (ast.Sub, ast.BitAnd, ast.BitOr, ast.BitXor))
            self.assertTrue(is_counted or is_kept or is_joined or isinstance(above, ast.Compare), place)

    def test_names(self):
        every_builtin = set(dir(builtins))
        for place, node in self.each(ast.Name, ast.arg, ast.Attribute, ast.FunctionDef, ast.ClassDef):
            name = getattr(node, "id", getattr(node, "arg", getattr(node, "attr", getattr(node, "name", ""))))
            self.assertNotIn(name, BARRED_WORDS, place)
            self.assertRegex(name, r"\A(_|_?[A-Za-z][A-Za-z0-9_]*|__[a-z]+__)\Z", place)
            if isinstance(node, (ast.Name, ast.arg)) or isinstance(node.above, ast.Module):
                is_read = isinstance(getattr(node, "ctx", None), ast.Load)
                self.assertTrue(name in BUILTINS and is_read or name not in every_builtin, f"{place}: {name}")

    def test_parameters_hide_nothing(self):
        for name, tree in self.trees.items():
            told = {alias.name for node in tree.body if isinstance(node, ast.ImportFrom) for alias in node.names}
            told |= {node.name for node in tree.body if isinstance(node, ast.ClassDef)}
            for node in ast.walk(tree):
                if isinstance(node, ast.arg):
                    self.assertNotIn(node.arg, told, f"{name}.py:{node.lineno}")
                if isinstance(node, ast.Name) and isinstance(node.ctx, ast.Store):
                    self.assertNotIn(node.id, told, f"{name}.py:{node.lineno}")

    def test_calls_of_methods(self):
        own = self.own_names()
        for place, node in self.each(ast.Call):
            if isinstance(node.func, ast.Attribute):
                self.assertTrue(node.func.attr in METHODS or node.func.attr in own, f"{place}: {node.func.attr}")

    def test_stars_in_calls(self):
        plain = (ast.Name, ast.Constant, ast.List, ast.Tuple)
        for place, node in self.each(ast.Call):
            for part in node.args:
                if isinstance(part, ast.Starred):
                    is_attribute = isinstance(part.value, ast.Attribute) and isinstance(part.value.value, ast.Name)
                    self.assertTrue(is_attribute or isinstance(part.value, plain), place)
            for part in node.keywords:
                self.assertIsNotNone(part.arg, place)

    def test_methods_and_attributes_are_apart(self):
        methods = {node.name for _, node in self.each(ast.FunctionDef) if isinstance(node.above, ast.ClassDef)}
        attributes = {node.attr for _, node in self.each(ast.Attribute) if isinstance(node.ctx, ast.Store)}
        self.assertEqual(methods & attributes, set())
        for place, node in self.each(ast.Attribute):
            self.assertTrue(node.attr in attributes | methods | METHODS | {"__class__", "__name__"}, place)

    def test_tables_are_read_by_items_alone(self):
        """A dict of a module is asked for an item or whether one is in it, iterated over, or copied."""
        for name, tree in self.trees.items():
            assigned = [node for node in tree.body if isinstance(node, ast.Assign)]
            tables = [node.targets[0].id for node in assigned if isinstance(node.value, (ast.Dict, ast.List))]
            for node in ast.walk(tree):
                if isinstance(node, ast.Name) and node.id in tables and isinstance(node.ctx, ast.Load):
                    above = node.above
                    if isinstance(above, ast.Call):
                        self.assertIn(getattr(above.func, "id", ""), ("dict", "list", "len", "sorted"))
                    else:
                        self.assertIsInstance(above, (ast.Subscript, ast.Compare, ast.comprehension, ast.For))
                        self.assertIsInstance(getattr(above, "ctx", ast.Load()), ast.Load, f"{name}.py:{node.lineno}")

    def test_raised_on_the_spot(self):
        for place, node in self.each(ast.Raise):
            if node.exc is not None:
                self.assertIsInstance(node.exc, ast.Call, place)
                self.assertIsInstance(node.exc.func, ast.Name, place)
        for place, node in self.each(ast.ExceptHandler):
            self.assertIsNotNone(node.type, place)

    def test_strings(self):
        for name, text in self.texts.items():
            for token in tokenize.generate_tokens(io.StringIO(text).readline):
                if token.type == tokenize.STRING:
                    place = f"{name}.py:{token.start[0]}"
                    self.assertNotIn(chr(37), token.string, place)
                    self.assertEqual(re.findall(r"\\[^nt\\'\"]", token.string), [], place)


if __name__ == "__main__":
    unittest.main()
