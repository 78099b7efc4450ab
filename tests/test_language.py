"""Checks the rules of LANGUAGE.md that a short look at the syntax can tell. It does not replace reading them."""

import ast
import builtins
import re
import unittest
from pathlib import Path

PACKAGE = Path(__file__).resolve().parent.parent / "quiremarks"
FILES = sorted(PACKAGE.rglob("*.py"))
LIBRARY = {"math": {"gcd", "lcm", "isqrt", "comb", "perm", "factorial"}}
BUILTINS = set(
    "len range enumerate zip min max sum abs sorted reversed int str bool list tuple dict set isinstance ord repr any "
    "all divmod type Exception ValueError TypeError KeyError IndexError LookupError ZeroDivisionError".split()
)
METHODS = set(
    "append clear copy count endswith extend find get index insert isalnum isalpha isdigit islower isspace isupper "
    "items join keys ljust lower lstrip partition pop remove replace reverse rfind rjust rpartition rsplit rstrip "
    "setdefault split splitlines startswith strip update upper values zfill bit_length add discard".split()
)
BARRED = set(
    "register mro elements open input law version_info with_traceback add_note attrgetter breakpoint builtins compile "
    "copyright credits delattr dir eval exec exit gc getattr globals hasattr help id importlib license locals "
    "methodcaller os quit setattr super vars sys typing enum dataclass namedtuple".split()
)
# What the program needs of the language. Whoever needs more reads LANGUAGE.md first, and adds it here.
NODES = (
    ast.Module, ast.Expr, ast.Constant, ast.ImportFrom, ast.alias, ast.FunctionDef, ast.ClassDef, ast.arguments,
    ast.arg, ast.Return, ast.Raise, ast.Assign, ast.If, ast.While, ast.For, ast.Break, ast.Continue, ast.BoolOp,
    ast.BinOp, ast.UnaryOp, ast.Compare, ast.Call, ast.Attribute, ast.Subscript, ast.Slice, ast.Name, ast.List,
    ast.Tuple, ast.Dict, ast.ListComp, ast.SetComp, ast.DictComp, ast.comprehension, ast.operator, ast.unaryop,
    ast.boolop, ast.cmpop, ast.expr_context, ast.Try, ast.ExceptHandler,
)
REFUSED = (ast.Div, ast.Pow, ast.MatMult, ast.Is, ast.IsNot)


def tree_of(path):
    return ast.parse(path.read_text(encoding="utf-8"))


TREES = [(path, tree_of(path)) for path in FILES]


def module_of(path):
    return "quiremarks." + path.stem


def imports_of(tree):
    return [node for node in ast.walk(tree) if isinstance(node, ast.ImportFrom)]


def defined_in(tree):
    """The names of functions, classes and values that a file itself binds, in their order."""
    found = []
    for node in tree.body:
        if isinstance(node, (ast.FunctionDef, ast.ClassDef)):
            found.append(node.name)
        elif isinstance(node, ast.Assign):
            found.extend(target.id for target in node.targets)
    return found


def functions_of(tree):
    return [node for node in ast.walk(tree) if isinstance(node, ast.FunctionDef)]


def locals_of(function):
    """The names of the parameters and of all that the function assigns."""
    found = {arg.arg for arg in function.args.args}
    for node in ast.walk(function):
        if isinstance(node, ast.Name) and isinstance(node.ctx, ast.Store):
            found.add(node.id)
    return found


class LanguageTest(unittest.TestCase):
    def test_files(self):
        self.assertIn(PACKAGE / "__init__.py", FILES)
        for path in PACKAGE.rglob("*"):
            if "__pycache__" not in path.parts:
                self.assertEqual((path.suffix, path.parent), (".py", PACKAGE))
                self.assertRegex(path.stem, "^([a-z][a-z0-9_]*|__init__)$")

    def test_characters_and_sizes(self):
        for path, tree in TREES:
            text = path.read_text(encoding="utf-8")
            self.assertRegex(text, r"\A[ -~\n]*\Z")
            lines = text.split("\n")
            self.assertLessEqual(len(lines), 399, path.name)
            self.assertLessEqual(max(len(line) for line in lines), 120, path.name)
            for function in functions_of(tree):
                self.assertLessEqual(function.end_lineno - function.lineno + 1, 40, function.name)

    def test_kinds_of_statements_and_expressions(self):
        for path, tree in TREES:
            for node in ast.walk(tree):
                self.assertIsInstance(node, NODES, (path.name, getattr(node, "lineno", None)))
                if isinstance(node, (ast.FunctionDef, ast.ClassDef)):
                    self.assertEqual(node.decorator_list, [])
                if isinstance(node, ast.Constant):
                    self.assertIn(type(node.value), (int, str, bool, type(None)))
                if isinstance(node, ast.Compare):
                    self.check_comparison(node)
                if isinstance(node, ast.BinOp):
                    self.assertNotIsInstance(node.op, REFUSED)

    def test_sets_are_made_where_they_are_measured_or_sorted(self):
        for path, tree in TREES:
            sets = [node for node in ast.walk(tree) if isinstance(node, ast.SetComp)]
            sets += [node for node in ast.walk(tree) if isinstance(node, ast.Call) and ast.unparse(node.func) == "set"]
            used = [
                node.args[0] for node in ast.walk(tree)
                if isinstance(node, ast.Call) and ast.unparse(node.func) in ("sorted", "len") and len(node.args) == 1
            ]
            for node in sets:
                self.assertTrue(any(node is argument for argument in used), (path.name, node.lineno))

    def check_comparison(self, node):
        """`is` stands beside None, True and False, or between type(x) and a class."""
        if any(isinstance(sign, (ast.Is, ast.IsNot)) for sign in node.ops):
            self.assertEqual(len(node.ops), 1)
            other = node.comparators[0]
            if isinstance(other, ast.Name):
                self.assertEqual(node.left.func.id, "type")
                self.assertIn(other.id, ("int", "str", "tuple", "list"))
            else:
                self.assertIsInstance(other, ast.Constant)
                self.assertTrue(other.value is None or isinstance(other.value, bool))

    def test_module_level(self):
        for path, tree in TREES:
            self.assertIsNotNone(ast.get_docstring(tree), path.name)
            names = defined_in(tree) + [alias.name for node in imports_of(tree) for alias in node.names]
            self.assertEqual(len(names), len(set(names)), path.name)
            for node in tree.body[1:]:
                self.assertIsInstance(node, (ast.ImportFrom, ast.FunctionDef, ast.ClassDef, ast.Assign))
                if isinstance(node, ast.Assign):
                    self.assertEqual(len(node.targets), 1)
                    ast.literal_eval(node.value)

    def test_imports(self):
        known = {module_of(path): defined_in(tree_of(path)) for path in FILES}
        for path, tree in TREES:
            for node in imports_of(tree):
                self.assertEqual(node.level, 0)
                for alias in node.names:
                    self.assertIsNone(alias.asname)
                    self.assertIn(alias.name, LIBRARY.get(node.module, known.get(node.module, ())))

    def test_no_two_files_import_from_each_other(self):
        behind = {
            module_of(path): {node.module for node in imports_of(tree_of(path)) if node.module not in LIBRARY}
            for path in FILES
        }
        while behind:
            free = [module for module, needed in behind.items() if not needed & set(behind)]
            self.assertNotEqual(free, [], f"these import in a ring: {sorted(behind)}")
            for module in free:
                del behind[module]

    def test_names(self):
        for path, tree in TREES:
            taken = {alias.name for node in imports_of(tree) for alias in node.names}
            taken |= {node.name for node in tree.body if isinstance(node, ast.ClassDef)}
            bound = set(defined_in(tree))
            for function in functions_of(tree):
                self.assertEqual(locals_of(function) & taken, set(), function.name)
                bound |= locals_of(function)
            for name in bound:
                self.assertNotIn(name, dir(builtins), path.name)
                self.assertNotIn(name, BARRED, path.name)
                self.assertRegex(name, "^(_|_?[A-Za-z][A-Za-z0-9_]*)$")

    def test_builtins_and_methods(self):
        classes = [node for _, tree in TREES for node in ast.walk(tree) if isinstance(node, ast.ClassDef)]
        methods = METHODS | {function.name for node in classes for function in functions_of(node)}
        for path, tree in TREES:
            own = set(defined_in(tree)) | {alias.name for node in imports_of(tree) for alias in node.names}
            for node in ast.walk(tree):
                if isinstance(node, ast.Name) and node.id in dir(builtins) and node.id not in own:
                    self.assertIn(node.id, BUILTINS, path.name)
                if isinstance(node, ast.Call) and isinstance(node.func, ast.Attribute):
                    self.assertIn(node.func.attr, methods, path.name)

    def test_text(self):
        for path, _ in TREES:
            text = path.read_text(encoding="utf-8")
            for word in ("typing", "enum", "Enum", "Generic", "Protocol", "ABC", "namedtuple", "_wall", "_WallAttr"):
                self.assertIsNone(re.search(rf"\b{word}\b", text), word)
            for word in ("dataclass", "overload", "contextmanager"):
                self.assertNotIn(word, text)


if __name__ == "__main__":
    unittest.main()
