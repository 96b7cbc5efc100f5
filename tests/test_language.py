"""The rules of LANGUAGE.md that a test can see: they hold for every file of the package."""

import ast
import builtins
import io
import os
import re
import tokenize
import unittest
import warnings

import integraph

PACKAGE = os.path.dirname(integraph.__file__)

LIBRARY = {"math": ("gcd", "lcm", "isqrt", "comb", "perm", "factorial"),
           "itertools": ("product", "combinations", "permutations", "chain", "accumulate",
                         "pairwise", "islice", "zip_longest"),
           "heapq": ("heappush", "heappop", "heapify", "heapreplace", "heappushpop")}

BUILTINS = set("""len range enumerate zip min max sum abs sorted reversed int str bool list tuple
    dict set isinstance ord repr any all divmod pow super map Exception ValueError TypeError
    KeyError IndexError LookupError ZeroDivisionError""".split())

# Methods of builtin values (L25).
METHODS = set("""append clear copy count endswith extend find get index insert isalnum isalpha
    isdigit islower isspace isupper items join keys ljust lower lstrip partition pop remove
    replace reverse rfind rjust rpartition rsplit rstrip setdefault split splitlines startswith
    strip update upper values zfill bit_length title capitalize swapcase casefold removeprefix
    removesuffix rindex isascii isdecimal isnumeric sort""".split())

UNUSED = set("""register mro elements open input law version_info with_traceback add_note
    attrgetter breakpoint builtins compile copyright credits delattr dir eval exec exit gc getattr
    globals hasattr help id importlib license locals methodcaller os quit setattr type vars
    typing enum Enum Flag Generic Protocol ABC namedtuple dataclass overload contextmanager
    abstractmethod bytes frozenset chr format""".split())

NODES = (ast.Div, ast.MatMult, ast.Global, ast.AsyncFunctionDef, ast.AsyncFor, ast.AsyncWith,
         ast.Await, ast.Yield, ast.YieldFrom, ast.Import, ast.AnnAssign)


def files():
    found = []
    for name in sorted(os.listdir(PACKAGE)):
        if name != "__pycache__":
            with open(os.path.join(PACKAGE, name), "rb") as file:
                found.append((name, file.read().decode("utf-8")))
    return found


def docstrings(tree):
    found = set()
    for node in ast.walk(tree):
        if isinstance(node, (ast.Module, ast.FunctionDef, ast.ClassDef)) and node.body:
            first = node.body[0]
            if isinstance(first, ast.Expr) and isinstance(first.value, ast.Constant):
                found.add(id(first.value))
    return found


def bound_names(tree):
    for node in ast.walk(tree):
        if isinstance(node, ast.Name) and not isinstance(node.ctx, ast.Load):
            yield node.id
        elif isinstance(node, ast.arg):
            yield node.arg
        elif isinstance(node, (ast.FunctionDef, ast.ClassDef)):
            yield node.name
        elif isinstance(node, ast.alias):
            yield node.asname or node.name
        elif isinstance(node, ast.ExceptHandler) and node.name:
            yield node.name


class Language(unittest.TestCase):
    def each(self):
        for name, text in files():
            with self.subTest(file=name):
                yield name, text, ast.parse(text)

    def test_files(self):
        for name, text, tree in self.each():
            self.assertRegex(name, r"\A[a-z_][a-z0-9_]*\.py\Z")
            self.assertRegex(text, r"\A[ -~\n]*\Z")
            lines = text.split("\n")
            self.assertLessEqual(len(lines) - 1, 399)
            self.assertLessEqual(max(len(line) for line in lines), 120)
            for node in ast.walk(tree):
                if isinstance(node, ast.FunctionDef):
                    self.assertLessEqual(node.end_lineno - node.lineno + 1, 40, node.name)

    def test_python_gives_no_warning(self):
        with warnings.catch_warnings():
            warnings.simplefilter("error")
            for name, text, _ in self.each():
                compile(text, name, "exec")

    def test_imports(self):
        defined = {}
        for name, _, tree in self.each():
            defined["integraph." + name[:-3]] = {
                node.name for node in tree.body if isinstance(node, (ast.FunctionDef, ast.ClassDef))
            } | {target.id for node in tree.body if isinstance(node, ast.Assign)
                 for target in node.targets}
        for _, _, tree in self.each():
            for node in ast.walk(tree):
                if isinstance(node, ast.ImportFrom):
                    self.assertEqual(node.level, 0)
                    self.assertIn(node, tree.body)
                    allowed = LIBRARY.get(node.module) or defined[node.module]
                    for alias in node.names:
                        self.assertIsNone(alias.asname)
                        self.assertIn(alias.name, allowed)

    def test_module_level(self):
        for _, _, tree in self.each():
            for at, node in enumerate(tree.body):
                if isinstance(node, ast.Assign):
                    self.assertEqual([type(target) for target in node.targets], [ast.Name])
                elif isinstance(node, ast.Expr):
                    self.assertEqual(at, 0)
                else:
                    self.assertIsInstance(node, (ast.ImportFrom, ast.FunctionDef, ast.ClassDef))
            names = list(bound_names(ast.Module(
                [node for node in tree.body if isinstance(node, (ast.Assign, ast.ImportFrom))], [])))
            names += [node.name for node in tree.body
                      if isinstance(node, (ast.FunctionDef, ast.ClassDef))]
            self.assertEqual(len(names), len(set(names)))

    def test_statements_and_expressions(self):
        for _, _, tree in self.each():
            for node in ast.walk(tree):
                self.assertNotIsInstance(node, NODES, ast.dump(node))
                if isinstance(node, (ast.FunctionDef, ast.ClassDef)):
                    self.assertEqual(node.decorator_list, [])
                if isinstance(node, ast.Constant):
                    self.assertNotIsInstance(node.value, (float, complex, bytes))
                if isinstance(node, ast.BinOp) and isinstance(node.op, ast.Pow):
                    self.assertIsInstance(node.right, ast.Constant)
                    self.assertTrue(0 <= node.right.value <= 64)
                if isinstance(node, ast.Compare):
                    self.check_compare(node)
                if isinstance(node, ast.ExceptHandler):
                    for name in getattr(node.type, "elts", [node.type]):
                        self.assertNotIn(getattr(name, "id", None), (None, "Exception"))
                if isinstance(node, ast.Raise) and node.exc is not None:
                    self.assertIsInstance(node.exc, ast.Call)
                    self.assertIsInstance(node.exc.func, ast.Name)

    def test_two_lambdas_do_not_stand_on_one_line(self):
        for _, _, tree in self.each():
            lines = [node.lineno for node in ast.walk(tree) if isinstance(node, ast.Lambda)]
            self.assertEqual(len(lines), len(set(lines)))

    def check_compare(self, node):
        for op, right in zip(node.ops, node.comparators):
            if isinstance(op, (ast.Is, ast.IsNot)):
                self.assertIsInstance(right, ast.Constant)
                self.assertIn(right.value, (None, True, False))

    def test_names(self):
        known = set(dir(builtins))
        for _, _, tree in self.each():
            bound = set(bound_names(tree))
            for name in bound:
                self.assertNotIn(name, known)
                self.assertNotIn(name, UNUSED)
                self.assertRegex(name, r"\A(_|_?[A-Za-z][A-Za-z0-9_]*|__init__)\Z")
            for node in ast.walk(tree):
                if isinstance(node, ast.Name) and isinstance(node.ctx, ast.Load):
                    self.assertNotEqual(node.id, "_")
                    self.assertIn(node.id, bound | BUILTINS)

    def test_locals_do_not_have_the_names_of_imports_and_classes(self):
        for _, _, tree in self.each():
            outer = {alias.name for node in tree.body if isinstance(node, ast.ImportFrom)
                     for alias in node.names}
            outer |= {node.name for node in tree.body if isinstance(node, ast.ClassDef)}
            for function in ast.walk(tree):
                if isinstance(function, ast.FunctionDef):
                    inner = set(bound_names(ast.Module([function], []))) - {function.name}
                    self.assertEqual(inner & outer, set())

    def test_methods(self):
        own = {node.name for _, _, tree in self.each() for part in ast.walk(tree)
               if isinstance(part, ast.ClassDef) for node in part.body
               if isinstance(node, ast.FunctionDef)}
        for _, _, tree in self.each():
            for node in ast.walk(tree):
                if isinstance(node, ast.Call) and isinstance(node.func, ast.Attribute):
                    self.assertIn(node.func.attr, METHODS | own)

    def test_no_name_is_a_method_and_an_attribute(self):
        methods = set()
        attributes = set()
        for _, _, tree in self.each():
            for node in ast.walk(tree):
                if isinstance(node, ast.Attribute) and isinstance(node.ctx, ast.Store):
                    attributes.add(node.attr)
                if isinstance(node, ast.ClassDef):
                    methods |= {part.name for part in node.body
                                if isinstance(part, ast.FunctionDef)}
        self.assertEqual(methods & attributes, set())
        values = (0, "", [], (), {}, set(), b"", None)
        for name in methods - {"__init__", "add"}:
            self.assertFalse(any(hasattr(value, name) for value in values), name)

    def test_parts_do_not_import_from_each_other(self):
        used = {}
        for name, _, tree in self.each():
            used["integraph." + name[:-3]] = {
                node.module for node in tree.body if isinstance(node, ast.ImportFrom)}
        while used:
            ready = [name for name, others in used.items() if not others & set(used)]
            self.assertNotEqual(ready, [])
            for name in ready:
                del used[name]

    def test_strings_and_words(self):
        for _, text, tree in self.each():
            notes = docstrings(tree)
            for node in ast.walk(tree):
                if isinstance(node, ast.Constant) and isinstance(node.value, str):
                    self.assertNotIn("%", node.value)
                    if id(node) not in notes:
                        self.assertEqual(set(re.findall(r"[A-Za-z_]+", node.value)) & UNUSED, set())
            for token in tokenize.generate_tokens(io.StringIO(text).readline):
                if token.type == tokenize.NAME:
                    self.assertNotIn(token.string, UNUSED)
                if token.type == tokenize.STRING:
                    self.assertNotRegex(token.string, r"\\[^nt\\'\"]")


if __name__ == "__main__":
    unittest.main()
