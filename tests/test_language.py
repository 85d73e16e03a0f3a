"""The rules of the language subset that can be seen file by file and name by name."""

import ast
import builtins
import pathlib
import re
import unittest

ROOT = pathlib.Path(__file__).resolve().parent.parent / "firstway"
FILES = sorted(ROOT.rglob("*.py"))
ALLOWED_BUILTINS = set(
    "len range enumerate zip min max sum abs sorted reversed int str bool list tuple dict set "
    "isinstance ord repr any all divmod property Exception ValueError KeyError StopIteration "
    "NotImplementedError".split()
)
BARRED_NAMES = set(
    "register mro elements open input law version_info with_traceback add_note compile dir eval exec "
    "exit help id license type vars globals locals sys os".split()
)
BARRED_WORDS = set(
    "type typing enum Enum Flag Generic Protocol ABC namedtuple NamedTuple TypedDict dataclass overload".split()
)
BARRED_NODES = (
    ast.Global, ast.AsyncFunctionDef, ast.Await, ast.Div, ast.Lambda, ast.Import, ast.Set,
)
OWN_ERRORS = {node.name for node in ast.parse((ROOT / "errors.py").read_text()).body if isinstance(node, ast.ClassDef)}


def tree_of(path):
    return ast.parse(path.read_text())


def functions_in(tree):
    return [node for node in ast.walk(tree) if isinstance(node, ast.FunctionDef)]


def module_of(path):
    parts = ("firstway", *path.relative_to(ROOT).with_suffix("").parts)
    return ".".join(parts[:-1] if parts[-1] == "__init__" else parts)


def imports_of(tree):
    return [node for node in tree.body if isinstance(node, ast.ImportFrom)]


def bound_in(function):
    names = [node.arg for node in ast.walk(function) if isinstance(node, ast.arg)]
    names += [n.id for n in ast.walk(function) if isinstance(n, ast.Name) and not isinstance(n.ctx, ast.Load)]
    return names


class LanguageTest(unittest.TestCase):

    def test_folders_and_characters(self):
        self.assertTrue(FILES)
        self.assertTrue(len(FILES) <= 100)
        for path in FILES:
            self.assertTrue((path.parent / "__init__.py").exists())
            self.assertRegex(path.name, r"^[a-z0-9_]+\.py$")
            self.assertFalse(path.with_suffix("").is_dir() and path.stem != "__init__")
            text = path.read_text()
            self.assertFalse([sign for sign in text if sign != "\n" and not " " <= sign <= "~"])
            self.assertFalse("%" in text)

    def test_sizes(self):
        for path in FILES:
            lines = path.read_text().split("\n")
            self.assertLessEqual(len(lines), 400)
            self.assertLessEqual(max(len(line) for line in lines), 120)
            for node in functions_in(tree_of(path)):
                self.assertLessEqual(node.end_lineno - node.lineno + 1, 40, node.name)
                for decorator in node.decorator_list:
                    self.assertEqual(decorator.id, "property")
                    self.assertEqual([part.arg for part in node.args.args], ["self"])

    def test_statements_and_imports(self):
        for path in FILES:
            tree = tree_of(path)
            for node in ast.walk(tree):
                self.assertNotIsInstance(node, BARRED_NODES)
            for node in tree.body:
                self.assertIsInstance(
                    node, (ast.Expr, ast.ImportFrom, ast.FunctionDef, ast.ClassDef, ast.Assign))
            for node in imports_of(tree):
                self.assertTrue(node.module.startswith("firstway."))
                source = ROOT.parent / (node.module.replace(".", "/") + ".py")
                defined = [getattr(part, "name", None) for part in tree_of(source).body]
                for part in tree_of(source).body:
                    if isinstance(part, ast.Assign):
                        defined.append(part.targets[0].id)
                for alias in node.names:
                    self.assertIn(alias.name, defined)
                    self.assertIsNone(alias.asname)

    def test_own_errors_alone_are_caught(self):
        for path in FILES:
            for node in ast.walk(tree_of(path)):
                if isinstance(node, ast.Try):
                    self.assertFalse(node.finalbody)
                if isinstance(node, ast.ExceptHandler):
                    caught = node.type.elts if isinstance(node.type, ast.Tuple) else [node.type]
                    self.assertTrue(OWN_ERRORS.issuperset(name.id for name in caught))

    def test_generators_are_iterated_at_once(self):
        trees = [tree_of(path) for path in FILES]
        generators = {
            function.name for tree in trees for function in functions_in(tree)
            if any(isinstance(node, (ast.Yield, ast.YieldFrom)) for node in ast.walk(function))
        }
        self.assertIn("each_match", generators)
        for tree in trees:
            iterated = [node.iter for node in ast.walk(tree) if isinstance(node, (ast.For, ast.comprehension))]
            for node in ast.walk(tree):
                if isinstance(node, ast.Call) and isinstance(node.func, ast.Name) and node.func.id == "list":
                    iterated += node.args
            for node in ast.walk(tree):
                if isinstance(node, ast.Call):
                    name = getattr(node.func, "id", getattr(node.func, "attr", None))
                    self.assertTrue(name not in generators or node in iterated, name)

    def test_no_circles_of_imports(self):
        needs = {module_of(path): [n.module for n in imports_of(tree_of(path))] for path in FILES}
        done = []
        while len(done) < len(needs):
            ready = [m for m in needs if m not in done and all(n in done for n in needs[m])]
            self.assertTrue(ready, [m for m in needs if m not in done])
            done.extend(ready)

    def test_builtins(self):
        known = set(dir(builtins))
        for path in FILES:
            for node in ast.walk(tree_of(path)):
                if isinstance(node, ast.Name) and node.id in known:
                    self.assertIn(node.id, ALLOWED_BUILTINS)
                    self.assertIsInstance(node.ctx, ast.Load)

    def test_names(self):
        known = set(dir(builtins))
        for path in FILES:
            tree = tree_of(path)
            imported = [alias.name for node in imports_of(tree) for alias in node.names]
            classes = [node.name for node in tree.body if isinstance(node, ast.ClassDef)]
            top = imported + [n.name for n in tree.body if isinstance(n, (ast.FunctionDef, ast.ClassDef))]
            self.assertEqual(len(top), len(set(top)))
            for function in functions_in(tree):
                self.assertFalse(function.name in BARRED_NAMES | known, function.name)
                for name in bound_in(function):
                    self.assertFalse(name in known | BARRED_NAMES, name)
                    self.assertFalse(name in imported + classes, name)
                    self.assertFalse(name.startswith("__"), name)
            for node in ast.walk(tree):
                if isinstance(node, ast.Attribute):
                    self.assertFalse(node.attr in ("register", "mro", "elements", "open", "input", "law"))
            for node in ast.walk(tree):
                if isinstance(node, ast.ClassDef):
                    self.assertTrue(node.name[0].isalpha())

    def test_words(self):
        for path in FILES:
            tree = tree_of(path)
            names = {n.id for n in ast.walk(tree) if isinstance(n, ast.Name)}
            names |= {n.attr for n in ast.walk(tree) if isinstance(n, ast.Attribute)}
            strings = [n.value for n in ast.walk(tree) if isinstance(n, ast.Constant) and isinstance(n.value, str)]
            docs = [ast.get_docstring(n, clean=False) for n in ast.walk(tree)
                    if isinstance(n, (ast.Module, ast.ClassDef, ast.FunctionDef))]
            words = set(names)
            for text in strings:
                if text not in docs:
                    words |= set(re.findall(r"\w+", text))
            self.assertFalse(words & BARRED_WORDS)

    def test_methods_and_attributes_have_different_names(self):
        methods, attributes = set(), set()
        for path in FILES:
            tree = tree_of(path)
            for node in ast.walk(tree):
                if isinstance(node, ast.ClassDef):
                    methods |= {part.name for part in node.body if isinstance(part, ast.FunctionDef)}
                if isinstance(node, ast.Attribute) and isinstance(node.ctx, ast.Store):
                    attributes.add(node.attr)
        self.assertFalse(methods & attributes)

    def test_is_stands_beside_none_true_and_false(self):
        for path in FILES:
            for node in ast.walk(tree_of(path)):
                if isinstance(node, ast.Compare):
                    for sign, other in zip(node.ops, node.comparators):
                        if isinstance(sign, (ast.Is, ast.IsNot)):
                            self.assertIsInstance(other, ast.Constant)
