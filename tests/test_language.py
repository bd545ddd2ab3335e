"""Those rules of the language subset that can be seen in the files of the package."""

import ast
import builtins
import unittest
from pathlib import Path

PACKAGE = Path(__file__).resolve().parent.parent / "soundturns"

BUILTINS = set(
    "len range enumerate zip min max sum abs sorted reversed int str bool bytes list tuple dict set"
    " isinstance ord repr any all divmod pow map iter next Exception ValueError TypeError KeyError"
    " IndexError LookupError ZeroDivisionError ArithmeticError OverflowError RuntimeError"
    " NotImplementedError StopIteration NotImplemented".split())

METHODS = set(
    "append clear copy count endswith extend find get index insert isalnum isalpha isdigit islower"
    " isspace isupper items join keys ljust lower lstrip partition pop remove replace reverse rfind"
    " rjust rpartition rsplit rstrip setdefault split splitlines startswith strip update upper"
    " values zfill bit_length add discard sort".split())

NOT_ALLOWED = (ast.Global, ast.AsyncFunctionDef, ast.AsyncFor, ast.AsyncWith, ast.Await, ast.Div,
               ast.Import, ast.MatMult)

LIBRARY = ("heapq", "math", "itertools", "collections")


def sources():
    """Return the pairs of the path and the text of each file of the package."""
    return [(path, path.read_text(encoding="utf-8")) for path in sorted(PACKAGE.rglob("*.py"))]


def nodes():
    """Return the pairs of the path of a file and each part of its tree."""
    return [(path, node) for path, text in sources() for node in ast.walk(ast.parse(text))]


def defined_in(path):
    """Return the names that the module level of a file binds by itself."""
    names = set()
    for node in ast.parse(path.read_text(encoding="utf-8")).body:
        if isinstance(node, (ast.FunctionDef, ast.ClassDef)):
            names.add(node.name)
        elif isinstance(node, ast.Assign):
            names.update(target.id for target in node.targets)
    return names


def own_methods():
    """Return the names of the methods that the classes of the package define."""
    return {method.name for _, node in nodes() if isinstance(node, ast.ClassDef)
            for method in node.body if isinstance(method, ast.FunctionDef)}


class LanguageTest(unittest.TestCase):
    def test_the_folder_holds_files_of_the_package_alone(self):
        for path in PACKAGE.rglob("*"):
            if "__pycache__" not in path.parts:
                self.assertTrue(path.is_dir() or path.suffix == ".py", path)
        self.assertTrue((PACKAGE / "__init__.py").is_file())

    def test_sizes_and_characters(self):
        for path, text in sources():
            self.assertLessEqual(text.count("\n"), 399, path)
            self.assertTrue(all(char == "\n" or " " <= char <= "~" for char in text), path)
            self.assertTrue(all(len(line) <= 120 for line in text.split("\n")), path)
        for path, node in nodes():
            if isinstance(node, ast.FunctionDef):
                self.assertLessEqual(node.end_lineno - node.lineno + 1, 40, (path, node.name))
                self.assertEqual(node.decorator_list, [], (path, node.name))

    def test_nothing_of_the_language_beyond_the_subset(self):
        for path, node in nodes():
            self.assertNotIsInstance(node, NOT_ALLOWED, path)
            if isinstance(node, ast.Constant):
                self.assertNotIsInstance(node.value, (float, complex), path)
                self.assertFalse(isinstance(node.value, str) and chr(37) in node.value, path)

    def test_builtins_and_methods(self):
        allowed = METHODS | own_methods()
        for path, node in nodes():
            if isinstance(node, ast.Name) and hasattr(builtins, node.id):
                self.assertIn(node.id, BUILTINS, path)
                self.assertIsInstance(node.ctx, ast.Load, path)
            if isinstance(node, ast.arg):
                self.assertFalse(hasattr(builtins, node.arg), (path, node.arg))
            if isinstance(node, ast.Call) and isinstance(node.func, ast.Attribute):
                self.assertIn(node.func.attr, allowed, path)

    def test_what_is_iterated_at_once(self):
        kept = (ast.ListComp, ast.DictComp, ast.SetComp)
        for path, node in nodes():
            self.assertNotIsInstance(node, (ast.GeneratorExp, ast.Yield, ast.YieldFrom), path)
            # The order of the members of a set is not told, so none is iterated.
            if isinstance(node, (ast.For, *kept)):
                for part in [node] if isinstance(node, ast.For) else node.generators:
                    self.assertNotIsInstance(part.iter, (ast.Set, ast.SetComp), path)
            if isinstance(node, ast.Return) and isinstance(node.value, ast.Call):
                self.assertNotIn(getattr(node.value.func, "id", ""), ("zip", "enumerate", "reversed", "range"), path)

    def test_lambdas_with_the_same_parameters_on_one_line(self):
        for path, text in sources():
            seen = set()
            for node in ast.walk(ast.parse(text)):
                if isinstance(node, ast.Lambda):
                    place = (node.lineno, tuple(part.arg for part in node.args.args))
                    self.assertNotIn(place, seen, path)
                    seen.add(place)

    def test_is_stands_beside_none_true_and_false(self):
        for path, node in nodes():
            if isinstance(node, ast.Compare) and any(isinstance(sign, (ast.Is, ast.IsNot)) for sign in node.ops):
                self.assertIsInstance(node.comparators[0], ast.Constant, path)
                self.assertIn(node.comparators[0].value, (None, True, False), path)

    def test_attributes(self):
        stored = {node.attr for _, node in nodes()
                  if isinstance(node, ast.Attribute) and isinstance(node.ctx, ast.Store)}
        builtin = {name for kind in (str, int, list, dict, set, bytes, tuple) for name in dir(kind)}
        self.assertEqual(stored & builtin, set())
        self.assertEqual(stored & own_methods(), set())

    def test_words_that_are_not_used(self):
        nowhere = set("register mro elements open input law version_info with_traceback add_note".split())
        names = set("attrgetter breakpoint builtins compile copyright credits delattr dir eval exec exit gc getattr"
                    " globals hasattr help id importlib license locals methodcaller os quit setattr super type vars sys"
                    " map filter format hash next iter object print slice round".split())
        for path, node in nodes():
            if isinstance(node, ast.Attribute):
                self.assertNotIn(node.attr, nowhere, path)
            found = getattr(node, "id", getattr(node, "arg", getattr(node, "name", None)))
            if isinstance(found, str):
                self.assertNotIn(found, nowhere | names, path)
        words = ("typing", "enum", "Enum", "Flag", "Generic", "Protocol", "ABC", "namedtuple", "dataclass", "overload",
                 "contextmanager", "abstractmethod")
        for path, text in sources():
            for word in words:
                self.assertNotRegex(text, rf"\b{word}\b", path)

    def test_what_stands_behind_a_star(self):
        for path, node in nodes():
            if isinstance(node, ast.Call) and any(isinstance(part, ast.Starred) for part in node.args):
                self.assertEqual(node.keywords, [], path)
                for part in node.args:
                    held = part.value if isinstance(part, ast.Starred) else part
                    self.assertIsInstance(held, (ast.Name, ast.Attribute, ast.Constant), (path, node.lineno))

    def test_what_an_exit_does(self):
        exits = [(path, node) for path, node in nodes() if isinstance(node,
                                                                      ast.FunctionDef) and node.name == "__exit__"]
        self.assertEqual(len(exits), 1)
        for path, node in exits:
            for part in ast.walk(ast.Module(body=node.body, type_ignores=[])):
                self.assertIsInstance(part, (ast.Module, ast.If, ast.BoolOp, ast.And, ast.Or, ast.UnaryOp, ast.Not,
                                             ast.Compare, ast.Is, ast.IsNot, ast.Name, ast.Attribute, ast.Constant,
                                             ast.Assign, ast.Load, ast.Store), path)

    def test_lists_at_module_level_are_not_handed_on(self):
        for path, text in sources():
            tree = ast.parse(text)
            tables = {target.id for node in tree.body if isinstance(node, ast.Assign)
                      and isinstance(node.value, (ast.List, ast.Dict)) for target in node.targets}
            imported = {part.name for node in tree.body if isinstance(node, ast.ImportFrom) for part in node.names}
            for node in ast.walk(tree):
                if isinstance(node, (ast.Call, ast.Return)):
                    given = node.args if isinstance(node, ast.Call) else [node.value]
                    for part in given:
                        if isinstance(part, ast.Name) and part.id in tables | imported & {"MAKERS", "TELLERS", "TAKEN"}:
                            self.assertIn(getattr(getattr(node, "func", None), "id", ""), ("len", "sorted", "list",
                                                                                           "dict"))

    def test_the_same_name_is_bound_once(self):
        for path, text in sources():
            names = []
            for node in ast.parse(text).body:
                if isinstance(node, (ast.FunctionDef, ast.ClassDef)):
                    names.append(node.name)
                elif isinstance(node, ast.Assign):
                    names.extend(target.id for target in node.targets)
                elif isinstance(node, ast.ImportFrom):
                    names.extend(part.name for part in node.names)
            self.assertEqual(len(names), len(set(names)), path)

    def test_no_two_files_import_from_each_other(self):
        found = {path.stem: {node.module.split(".")[1] for node in ast.parse(text).body
                             if isinstance(node, ast.ImportFrom) and node.module not in LIBRARY}
                 for path, text in sources()}
        while found:
            free = [name for name in found if not found[name] & set(found)]
            self.assertNotEqual(free, [], found)
            for name in free:
                del found[name]

    def test_imports_name_the_defining_file(self):
        for path, node in nodes():
            if isinstance(node, ast.ImportFrom) and node.module not in LIBRARY:
                package, name = node.module.split(".")
                self.assertEqual((package, node.level), ("soundturns", 0), path)
                for part in node.names:
                    self.assertIsNone(part.asname, path)
                    self.assertIn(part.name, defined_in(PACKAGE / f"{name}.py"), path)

    def test_no_local_name_hides_an_import_or_a_class(self):
        for path, text in sources():
            tree = ast.parse(text)
            imported = {part.name for node in tree.body if isinstance(node, ast.ImportFrom)
                        for part in node.names}
            imported |= {node.name for node in tree.body if isinstance(node, ast.ClassDef)}
            for node in ast.walk(tree):
                if isinstance(node, ast.Name) and isinstance(node.ctx, ast.Store):
                    self.assertNotIn(node.id, imported, path)
                if isinstance(node, ast.arg):
                    self.assertNotIn(node.arg, imported, path)


if __name__ == "__main__":
    unittest.main()
