"""Some rules of the language of the package that a test can see: sizes, imports, names, words and signs."""

import ast
import builtins
import pathlib
import unittest

FOLDER = pathlib.Path(__file__).resolve().parent.parent / "leastkeep"
FILES = sorted(FOLDER.glob("*.py"))
BUILTINS = {"len", "range", "enumerate", "zip", "min", "max", "sum", "abs", "sorted", "reversed", "int", "str", "bool",
            "list", "tuple", "dict", "isinstance", "any", "all", "divmod", "ValueError", "TypeError"}
METHODS = {"append", "extend", "insert", "pop", "get", "index", "items", "join", "bit_length", "setdefault", "split"}
LIBRARY = {"heapq": {"heappop", "heappush"}, "math": {"lcm"}}
WORDS = {"type", "typing", "enum", "namedtuple", "dataclass", "overload", "register", "mro", "elements", "open", "input",
         "law"}
EATERS = {"any", "all", "min", "max", "sum", "sorted"}


def nodes_of(path, *kinds):
    return [node for node in ast.walk(ast.parse(path.read_text())) if isinstance(node, kinds)]


def bound_names(path):
    """All names that a file binds, but for attributes."""
    for node in nodes_of(path, ast.FunctionDef, ast.ClassDef, ast.arg, ast.Name):
        if isinstance(node, ast.arg):
            yield node.arg
        elif isinstance(node, ast.Name):
            if isinstance(node.ctx, ast.Store):
                yield node.id
        else:
            yield node.name


def defined_names(path):
    """The functions, classes and values that a file defines."""
    found = set()
    for node in ast.parse(path.read_text()).body:
        if isinstance(node, ast.Assign):
            found |= {target.id for target in node.targets}
        elif isinstance(node, (ast.FunctionDef, ast.ClassDef)):
            found.add(node.name)
    return found


def imported_names(path):
    return {alias.name for node in nodes_of(path, ast.ImportFrom) for alias in node.names}


class Language(unittest.TestCase):
    def test_files(self):
        found = sorted(path for path in FOLDER.iterdir() if path.name != "__pycache__")
        self.assertEqual(found, FILES)
        self.assertIn(FOLDER / "__init__.py", FILES)

    def test_sizes_and_signs(self):
        for path in FILES:
            lines = path.read_text().split("\n")
            self.assertLessEqual(len(lines), 399, path.name)
            for line in lines:
                self.assertLessEqual(len(line), 120, line)
                self.assertTrue(all(" " <= sign <= "~" for sign in line), line)
            for node in nodes_of(path, ast.FunctionDef):
                self.assertLessEqual(node.end_lineno - node.lineno + 1, 40, node.name)

    def test_imports(self):
        for path in FILES:
            self.assertEqual(nodes_of(path, ast.Import), [])
            for node in nodes_of(path, ast.ImportFrom):
                folder, _, file = node.module.partition(".")
                self.assertEqual(node.level, 0)
                own = LIBRARY[folder] if folder in LIBRARY else defined_names(FOLDER / (file + ".py"))
                self.assertTrue(folder == "leastkeep" or not file)
                for alias in node.names:
                    self.assertIn(alias.name, own)
                    self.assertIsNone(alias.asname)

    def test_no_two_files_import_from_each_other(self):
        ahead = {path.stem: {node.module.partition(".")[2] for node in nodes_of(path, ast.ImportFrom)} - {""}
                 for path in FILES}
        while ahead:
            ready = [file for file, others in ahead.items() if not others & set(ahead)]
            self.assertTrue(ready, sorted(ahead))
            for file in ready:
                del ahead[file]

    def test_what_is_taken_from_the_library_is_called_alone(self):
        for path in FILES:
            names = imported_names(path) & set.union(*LIBRARY.values())
            met = sum(node.id in names for node in nodes_of(path, ast.Name))
            called = sum(isinstance(node.func, ast.Name) and node.func.id in names for node in nodes_of(path, ast.Call))
            self.assertEqual(met, called)

    def test_imports_are_used(self):
        for path in FILES:
            read = {node.id for node in nodes_of(path, ast.Name) if isinstance(node.ctx, ast.Load)}
            self.assertLessEqual(imported_names(path), read, path.name)

    def test_names(self):
        for path in FILES:
            bound = [name for name in bound_names(path) if not name.startswith("__")]
            for name in bound:
                self.assertFalse(hasattr(builtins, name), name)
                self.assertNotIn(name, WORDS)
            self.assertFalse(set(bound) & imported_names(path), path.name)

    def test_builtins(self):
        for path in FILES:
            for node in nodes_of(path, ast.Name):
                if hasattr(builtins, node.id):
                    self.assertIn(node.id, BUILTINS)

    def test_methods(self):
        own = {node.name for path in FILES for node in nodes_of(path, ast.FunctionDef)}
        for path in FILES:
            for node in nodes_of(path, ast.Call):
                if isinstance(node.func, ast.Attribute):
                    self.assertIn(node.func.attr, own | METHODS)

    def test_names_of_methods_and_attributes(self):
        taken = {name for value in (str, list, dict, set, int, bytes, tuple) for name in dir(value)
                 if not name.startswith("__")}
        for path in FILES:
            for made in nodes_of(path, ast.ClassDef):
                methods = {node.name for node in made.body if isinstance(node, ast.FunctionDef)}
                self.assertFalse(methods & (taken - {"add"}), made.name)
                held = {node.attr for node in ast.walk(made)
                        if isinstance(node, ast.Attribute) and isinstance(node.ctx, ast.Store)}
                self.assertFalse(held & (taken - {"index"}), made.name)
                self.assertFalse(methods & held, made.name)

    def test_what_does_not_stand_in_the_package(self):
        # Some of these may stand in narrow places; the package does without them.
        barred = (ast.With, ast.Global, ast.Nonlocal, ast.Div, ast.Pow, ast.GeneratorExp, ast.Yield,
                  ast.YieldFrom, ast.Starred, ast.Set, ast.SetComp, ast.AsyncFunctionDef, ast.Delete)
        for path in FILES:
            self.assertEqual(nodes_of(path, *barred), [], path.name)
            for node in nodes_of(path, ast.FunctionDef, ast.ClassDef):
                self.assertEqual(node.decorator_list, [])
            for node in nodes_of(path, ast.Constant):
                self.assertNotIsInstance(node.value, float)

    def test_errors_that_are_caught(self):
        own = defined_names(FOLDER / "errors.py")
        for path in FILES:
            for node in nodes_of(path, ast.Try):
                self.assertEqual(node.finalbody, [])
                for handler in node.handlers:
                    self.assertIn(handler.type.id, own)

    def test_sets_are_not_added_to(self):
        """A class has a method `add`, so that no set may be changed by one."""
        for path in FILES:
            for node in nodes_of(path, ast.Attribute):
                self.assertNotIn(node.attr, ("add", "discard"))

    def test_no_name_is_a_method_here_and_an_attribute_there(self):
        methods = {node.name for path in FILES for made in nodes_of(path, ast.ClassDef) for node in made.body
                   if isinstance(node, ast.FunctionDef)}
        held = {node.attr for path in FILES for node in nodes_of(path, ast.Attribute) if isinstance(node.ctx, ast.Store)}
        self.assertFalse(methods & held)

    def test_is_stands_beside_none_alone(self):
        for path in FILES:
            for node in nodes_of(path, ast.Compare):
                for sign, right in zip(node.ops, node.comparators):
                    if isinstance(sign, (ast.Is, ast.IsNot)):
                        self.assertIsInstance(right, ast.Constant)

    def test_reversed_takes_a_list(self):
        for path in FILES:
            for node in nodes_of(path, ast.Call):
                if isinstance(node.func, ast.Name) and node.func.id == "reversed":
                    self.assertIn(node.args[0].func.id, ("list", "tuple", "sorted", "range"))


if __name__ == "__main__":
    unittest.main()
