"""The rules of the language that can be measured file by file."""

import ast
import builtins
import pathlib
import re
import unittest
import warnings

PACKAGE = pathlib.Path(__file__).resolve().parent.parent / "oncefolded"
LIBRARY = ("heapq", "math", "itertools", "collections", "__future__")
# A test of examples leaves a name `_` among them.
ALL_BUILTINS = set(dir(builtins)) - {"_"}
# L8, as far as the package needs it.
BUILTINS = set("""len range enumerate zip min max sum abs sorted reversed int str bool list tuple dict set isinstance
    any all ValueError super""".split())
# L25, the first list.
METHODS = set("""append clear copy count endswith extend find get index insert isalnum isalpha isdigit islower isspace
    isupper items join keys ljust lower lstrip partition pop remove replace reverse rfind rjust rpartition rsplit
    rstrip setdefault split splitlines startswith strip update upper values zfill bit_length""".split())
# L17, without those that stand in longer words only.
UNUSED = """type typing typing_extensions enum Enum IntEnum StrEnum Flag IntFlag Generic Protocol ABC ABCMeta namedtuple
    NamedTuple TypedDict TYPE_CHECKING abstractmethod dataclass overload contextmanager _wall _WallAttr""".split()
NO_NAMES = set("""register mro elements open input law version_info with_traceback add_note attrgetter breakpoint
    compile copyright credits delattr dir eval exec exit gc globals help id importlib license locals methodcaller os
    quit vars""".split())


def own_files():
    return sorted(path for path in PACKAGE.rglob("*") if path.is_file() and path.parent.name != "__pycache__")


def sources():
    return [(path, path.read_text(encoding="utf-8")) for path in own_files()]


def bound_names(node):
    if isinstance(node, (ast.FunctionDef, ast.ClassDef)):
        return [node.name]
    if isinstance(node, ast.arg):
        return [node.arg]
    return [node.id] if isinstance(node, ast.Name) and isinstance(node.ctx, ast.Store) else []


class LanguageTest(unittest.TestCase):
    def test_the_folder_holds_python_files_only(self):
        self.assertIn(PACKAGE / "__init__.py", own_files())
        for path in own_files():
            self.assertRegex(path.name, "^[a-z0-9_]+[.]py$")

    def test_characters_and_sizes(self):
        for path, text in sources():
            self.assertTrue(all(" " <= sign <= "~" or sign == "\n" for sign in text), path)
            lines = text.split("\n")
            self.assertLessEqual(len(lines), 399, path)
            self.assertLessEqual(max(map(len, lines)), 120, path)

    def test_functions_are_short(self):
        for path, text in sources():
            for node in ast.walk(ast.parse(text)):
                if isinstance(node, ast.FunctionDef):
                    self.assertLessEqual(node.end_lineno - node.lineno + 1, 40, (path, node.name))

    def test_imports(self):
        for path, text in sources():
            for node in ast.walk(ast.parse(text)):
                self.assertFalse(isinstance(node, ast.Import) and path.name != "__main__.py", path)
                if isinstance(node, ast.ImportFrom):
                    self.assertEqual(node.level, 0, path)
                    self.assertIn(node.module.split(".")[0], LIBRARY + (PACKAGE.name,), path)

    def test_builtins(self):
        for path, text in sources():
            tree = ast.parse(text)
            read = {node.id for node in ast.walk(tree) if isinstance(node, ast.Name)}
            self.assertLessEqual(read & ALL_BUILTINS, BUILTINS, path)

    def test_no_name_is_that_of_a_builtin_or_barred(self):
        for path, text in sources():
            names = set(re.findall(r"[A-Za-z_][A-Za-z0-9_]*", re.sub("#[^\n]*", "", text)))
            self.assertFalse(names & set(UNUSED), path)
            for node in ast.walk(ast.parse(text)):
                for name in bound_names(node):
                    self.assertNotIn(name, ALL_BUILTINS, path)
                    self.assertNotIn(name, NO_NAMES, path)
                    self.assertRegex(name, "^(_|_?[A-Za-z][A-Za-z0-9_]*|__init__)$", path)
                if isinstance(node, ast.Name) and node.id == "_":
                    self.assertIsInstance(node.ctx, ast.Store, path)

    def test_methods(self):
        own = {node.name for _, text in sources() for node in ast.walk(ast.parse(text))
               if isinstance(node, ast.FunctionDef)}
        for path, text in sources():
            for node in ast.walk(ast.parse(text)):
                if isinstance(node, ast.Call) and isinstance(node.func, ast.Attribute):
                    self.assertIn(node.func.attr, METHODS | own, path)

    def test_expressions(self):
        barred = (ast.Lambda, ast.Div, ast.Global, ast.Nonlocal, ast.AsyncFunctionDef, ast.Await)
        for path, text in sources():
            for node in ast.walk(ast.parse(text)):
                self.assertNotIsInstance(node, barred, path)
                self.assertFalse(getattr(node, "decorator_list", []), path)
                if isinstance(node, ast.Constant):
                    self.assertIn(type(node.value), (int, str, bool, type(None)), path)
                    self.assertNotIn("%", str(node.value), path)
                if isinstance(node, ast.Compare):
                    for sign, value in zip(node.ops, node.comparators):
                        if isinstance(sign, (ast.Is, ast.IsNot)):
                            self.assertIn(getattr(value, "value", 0), (None, True, False), path)
                            self.assertIsInstance(value, ast.Constant, path)

    def test_functions_do_not_hide_what_their_file_imports_or_defines(self):
        for path, text in sources():
            tree = ast.parse(text)
            classes = {node.name for node in tree.body if isinstance(node, ast.ClassDef)}
            imported = {name.name for node in tree.body if isinstance(node, ast.ImportFrom) for name in node.names}
            for node in ast.walk(tree):
                if isinstance(node, (ast.arg, ast.Name)) and not isinstance(getattr(node, "ctx", None), ast.Load):
                    name = node.arg if isinstance(node, ast.arg) else node.id
                    self.assertNotIn(name, classes | imported, path)

    def test_no_two_files_import_from_each_other(self):
        needs = {}
        for path, text in sources():
            needs[path.stem] = {node.module.split(".")[1] for node in ast.walk(ast.parse(text))
                                if isinstance(node, ast.ImportFrom) and node.module.startswith(PACKAGE.name + ".")}
        while needs:
            free = [name for name, files in needs.items() if not files & set(needs)]
            self.assertTrue(free, needs)
            for name in free:
                del needs[name]

    def test_no_warnings(self):
        for path, text in sources():
            with warnings.catch_warnings():
                warnings.simplefilter("error")
                compile(text, str(path), "exec")


if __name__ == "__main__":
    unittest.main()
