"""The form of the package's files, as LANGUAGE.md asks for it, and the interface's names.

This asks for somewhat less than LANGUAGE.md allows: what the package does not need is refused here.
"""

import ast
import builtins
import inspect
import pathlib
import re
import unittest

from stillcopy import judge, texts
from stillcopy.disk import Disk
from stillcopy.follow import Follower
from stillcopy.lead import Lead

PACKAGE = pathlib.Path(__file__).resolve().parent.parent / "stillcopy"
FILES = sorted(PACKAGE.glob("*.py"))
TREES = {path.stem: ast.parse(path.read_text()) for path in FILES}
NODES = [node for tree in TREES.values() for node in ast.walk(tree)]

BARRED_FILES = ("test", "tests", "testing", "site", "conftest", "sitecustomize", "usercustomize", "type", "typing", "enum")
BARRED_WORDS = ("type typing typing_extensions enum Enum IntEnum StrEnum Flag IntFlag Generic Protocol ABC ABCMeta "
                "namedtuple NamedTuple TypedDict TYPE_CHECKING abstractmethod").split()
BARRED_NAMES = ("register mro elements open input law version_info with_traceback add_note attrgetter breakpoint "
                "builtins compile copyright credits delattr dir eval exec exit gc getattr globals hasattr help id "
                "importlib license locals methodcaller os quit setattr super type vars sys").split()
BUILTINS = ("len range enumerate zip min max sum abs sorted reversed int str bool list tuple dict set isinstance ord "
            "repr any all divmod super ValueError").split()
METHODS = ("append clear copy count endswith extend find get index insert isalnum isalpha isdigit islower isspace "
           "isupper items join keys ljust lower lstrip partition pop remove replace reverse rfind rjust rpartition "
           "rsplit rstrip setdefault split splitlines startswith strip update upper values zfill bit_length "
           "__init__").split()
OWN_METHODS_OF_VALUES = ("append clear copy count endswith extend find get index insert join lower pop remove "
                         "replace reverse setdefault split strip update upper add discard").split()
NODE_KINDS = (
    ast.Module, ast.Expr, ast.Constant, ast.ImportFrom, ast.alias, ast.FunctionDef, ast.arguments, ast.arg, ast.ClassDef,
    ast.Assign, ast.AugAssign, ast.Name, ast.Attribute, ast.Subscript, ast.Slice, ast.Tuple, ast.List, ast.Dict,
    ast.Starred, ast.Call, ast.BinOp, ast.UnaryOp, ast.BoolOp, ast.Compare, ast.IfExp, ast.If, ast.While, ast.For,
    ast.Return, ast.Raise, ast.Delete, ast.Break, ast.Continue, ast.Pass, ast.ListComp, ast.SetComp, ast.DictComp,
    ast.GeneratorExp, ast.comprehension, ast.JoinedStr, ast.FormattedValue, ast.expr_context, ast.boolop, ast.unaryop,
    ast.cmpop, ast.Add, ast.Sub, ast.Mult, ast.FloorDiv, ast.Mod,
)

INTERFACE = {
    Disk: ["__init__()", "write(block, what)", "settle()", "arm(deeds, picks)", "stop(picks)", "again()",
           "read(block)", "settled()"],
    Lead: ["__init__(disk, houses)", "known()", "clock()", "deals(group)", "deal(hand, letter, deeds)", "tick(moment)",
           "read(key, token)", "whole()", "tidy(page)", "close(name)", "heard(house, answer)", "kept_rows(page)",
           "copy()", "read_page(name, page)", "room()", "open_copies()", "letters(house)"],
    Follower: ["__init__(disk)", "known()", "clock()", "read(key, token)", "whole()", "hear(letter)", "answer()"],
}
FUNCTIONS = {
    judge: ["judge(entries, readings)"],
    texts: ["written(deals)", "read_deals(text)"],
}


def of_kind(kind):
    return [node for node in NODES if isinstance(node, kind)]


def bound_names(tree):
    """All names that are bound anywhere in a file, with those of methods and attributes left out."""
    methods = [item for node in ast.walk(tree) if isinstance(node, ast.ClassDef) for item in node.body]
    found = []
    for node in ast.walk(tree):
        if isinstance(node, ast.Name) and not isinstance(node.ctx, ast.Load):
            found.append(node.id)
        elif isinstance(node, ast.arg):
            found.append(node.arg)
        elif isinstance(node, (ast.FunctionDef, ast.ClassDef)) and node not in methods:
            found.append(node.name)
        elif isinstance(node, ast.alias):
            found.append(node.name)
    return found


def method_names():
    return [item.name for node in of_kind(ast.ClassDef) for item in node.body if isinstance(item, ast.FunctionDef)]


class Form(unittest.TestCase):
    def test_files(self):
        for path in PACKAGE.iterdir():
            if path.name == "__pycache__":
                continue
            self.assertRegex(path.name, r"^(__init__|[a-z][a-z0-9_]*)\.py$")
            self.assertFalse(path.stem in BARRED_FILES or path.stem in dir(builtins) or path.stem.startswith("test_"))
        self.assertIn("__init__", TREES)

    def test_characters_and_sizes(self):
        for path in FILES:
            text = path.read_text()
            self.assertRegex(text, r"\A[ -~\n]*\Z", path)
            self.assertLessEqual(len(text.splitlines()), 399, path)
            self.assertLessEqual(max(len(line) for line in text.splitlines()), 120, path)
            for word in BARRED_WORDS:
                self.assertIsNone(re.search(rf"\b{word}\b", text), (path, word))
            self.assertIsNone(re.search("dataclass|overload|contextmanager", text), path)
        for node in of_kind(ast.FunctionDef):
            self.assertLessEqual(node.end_lineno - node.lineno + 1, 40, node.name)

    def test_kinds_of_nodes(self):
        for node in NODES:
            self.assertIsInstance(node, NODE_KINDS, ast.dump(node)[:99])
            self.assertFalse(getattr(node, "decorator_list", []))
            if isinstance(node, ast.Constant):
                self.assertIn(type(node.value), (int, str, bool, type(None)))
                self.assertNotIn("%", str(node.value))
                self.assertNotIn("__", str(node.value))
            if isinstance(node, ast.Compare) and isinstance(node.ops[0], (ast.Is, ast.IsNot)):
                self.assertIn(node.comparators[0].value, (None, True, False))
            if isinstance(node, ast.arguments):
                self.assertFalse(node.posonlyargs or node.kwonlyargs or node.vararg or node.kwarg or node.defaults)

    def test_module_level(self):
        for stem, tree in TREES.items():
            functions = [node.name for node in tree.body if isinstance(node, ast.FunctionDef)]
            for at, node in enumerate(tree.body):
                if isinstance(node, ast.Assign):
                    self.assertEqual([type(target) for target in node.targets], [ast.Name])
                    for part in ast.walk(node.value):
                        self.assertIsInstance(part, (ast.Constant, ast.Tuple, ast.Dict, ast.Name, ast.UnaryOp,
                                                     ast.USub, ast.Load))
                        if isinstance(part, ast.Name):
                            self.assertIn(part.id, functions)
                elif isinstance(node, ast.Expr):
                    self.assertTrue(at == 0 and isinstance(node.value.value, str))
                else:
                    self.assertIsInstance(node, (ast.ImportFrom, ast.FunctionDef, ast.ClassDef))
            self.assertIsNotNone(ast.get_docstring(tree), stem)

    def test_imports(self):
        needs = {}
        for stem, tree in TREES.items():
            needs[stem] = set()
            for node in ast.walk(tree):
                if isinstance(node, ast.ImportFrom):
                    self.assertIn(node, tree.body)
                    self.assertEqual((node.level, node.module.split(".")[0]), (0, "stillcopy"))
                    target = node.module.split(".")[1]
                    needs[stem].add(target)
                    here = [item.name for item in TREES[target].body if isinstance(item, (ast.FunctionDef, ast.ClassDef))]
                    here += [item.targets[0].id for item in TREES[target].body if isinstance(item, ast.Assign)]
                    for alias in node.names:
                        self.assertIn(alias.name, here)
                        self.assertIsNone(alias.asname)
                        used = [item.id for item in ast.walk(tree) if isinstance(item, ast.Name)]
                        self.assertIn(alias.name, used, stem)
        while needs:
            free = [stem for stem in needs if not needs[stem] & set(needs)]
            self.assertTrue(free, needs)
            for stem in free:
                del needs[stem]

    def test_names(self):
        for stem, tree in TREES.items():
            top = [item.name for item in tree.body if isinstance(item, ast.ClassDef)]
            top += [alias.name for item in tree.body if isinstance(item, ast.ImportFrom) for alias in item.names]
            bound = bound_names(tree)
            for name in bound:
                self.assertRegex(name, r"^[A-Za-z][A-Za-z0-9_]*$")
                self.assertNotIn(name, BARRED_NAMES)
                self.assertNotIn(name, dir(builtins))
            for name in top:
                self.assertEqual(bound.count(name), 1, (stem, name))
            for node in ast.walk(tree):
                if isinstance(node, ast.Name) and node.id not in bound:
                    self.assertIn(node.id, BUILTINS)
                if isinstance(node, ast.Attribute) and node.attr != "__init__":
                    self.assertRegex(node.attr, r"^[A-Za-z][A-Za-z0-9_]*$")
                    self.assertNotIn(node.attr, BARRED_NAMES)

    def test_methods_and_attributes(self):
        methods = method_names()
        stored = [node.attr for node in of_kind(ast.Attribute) if not isinstance(node.ctx, ast.Load)]
        called = [node.func.attr for node in of_kind(ast.Call) if isinstance(node.func, ast.Attribute)]
        self.assertEqual(set(methods) & set(stored), set())
        for name in called:
            self.assertIn(name, METHODS + methods)
        for node in of_kind(ast.Attribute):
            self.assertIn(node.attr, METHODS + methods + stored)
        of_values = {name for kind in (str, int, list, tuple, dict, set, bytes) for name in dir(kind)}
        for name in methods + stored:
            self.assertTrue(name == "__init__" or name not in of_values or name in OWN_METHODS_OF_VALUES, name)
        for node in of_kind(ast.ClassDef):
            names = [item.name for item in node.body if isinstance(item, ast.FunctionDef)]
            self.assertEqual(len(names), len(set(names)))
            self.assertIsNotNone(ast.get_docstring(node))

    def test_interface(self):
        for owner, wanted in INTERFACE.items():
            for signature in wanted:
                name, handed = signature[:-1].split("(")
                method = vars(owner)[name]
                names = list(inspect.signature(method).parameters)
                self.assertEqual(", ".join(names[1:]), handed, signature)
        self.assertEqual([owner.__module__ for owner in INTERFACE], ["stillcopy.disk", "stillcopy.lead", "stillcopy.follow"])
        for module, wanted in FUNCTIONS.items():
            for signature in wanted:
                name, handed = signature[:-1].split("(")
                function = vars(module)[name]
                self.assertEqual(", ".join(inspect.signature(function).parameters), handed, signature)
                self.assertEqual(function.__module__, module.__name__)


if __name__ == "__main__":
    unittest.main()
