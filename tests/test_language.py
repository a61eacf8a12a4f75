"""The package keeps to the small part of Python that it is written in, as far as a walk through its trees can see."""

import ast
import builtins
import pathlib
import re
import unittest

PACKAGE = pathlib.Path(__file__).resolve().parent.parent / "houserulesbook"
FILES = sorted(path for path in PACKAGE.iterdir() if path.name != "__pycache__")
STATEMENTS = (ast.Assign, ast.AugAssign, ast.If, ast.While, ast.For, ast.Return, ast.Break, ast.Continue, ast.Pass,
              ast.Raise, ast.Try, ast.Expr, ast.FunctionDef, ast.ClassDef, ast.ImportFrom)
EXPRESSIONS = (ast.Constant, ast.Name, ast.List, ast.Tuple, ast.Dict, ast.BinOp, ast.UnaryOp, ast.BoolOp, ast.Compare,
               ast.IfExp, ast.Call, ast.Attribute, ast.Subscript, ast.Slice, ast.ListComp, ast.JoinedStr,
               ast.FormattedValue)
BUILTINS = set("""len range enumerate zip min max sum abs sorted reversed int str bool list tuple dict set frozenset
    isinstance ord repr any all divmod Exception ValueError KeyError""".split())
METHODS = set("""append clear copy count endswith extend find get index insert isalnum isalpha isdigit islower isspace
    isupper items join keys ljust lower lstrip partition pop remove replace reverse rfind rjust rpartition rsplit rstrip
    setdefault split splitlines startswith strip update upper values zfill bit_length""".split())
WORDS = set("""type typing typing_extensions enum Enum IntEnum StrEnum Flag IntFlag Generic Protocol ABC ABCMeta
    namedtuple NamedTuple TypedDict TYPE_CHECKING abstractmethod""".split())
NAMES_OUT = set("""register mro elements open input version_info with_traceback add_note attrgetter breakpoint compile
    copyright credits delattr dir eval exec exit gc getattr globals hasattr help id importlib license locals methodcaller
    os quit setattr super sys vars chr format format_map""".split())
OWN_ATTRIBUTES_OUT = set("""items keys values pop update append clear extend insert remove reverse setdefault sort args
    encode format""".split())


def tree_of(path):
    return ast.parse(path.read_text(encoding="utf-8"))


EACH_FILE = [(path, tree_of(path)) for path in FILES]


def where(path, node):
    return f"{path.name}:{node.lineno}"


def stored_names(tree):
    names = [node.id for node in ast.walk(tree) if isinstance(node, ast.Name) and isinstance(node.ctx, ast.Store)]
    return names + [node.arg for node in ast.walk(tree) if isinstance(node, ast.arg)]


def defs_of(tree):
    return [node for node in ast.walk(tree) if isinstance(node, ast.FunctionDef)]


def own_imports(tree):
    return [node for node in tree.body if isinstance(node, ast.ImportFrom)]


def top_names(tree):
    names = [node.name for node in tree.body if isinstance(node, (ast.FunctionDef, ast.ClassDef))]
    return names + [node.targets[0].id for node in tree.body if isinstance(node, ast.Assign)]


def is_plain(node):
    if isinstance(node, (ast.Tuple, ast.List)):
        return all([is_plain(part) for part in node.elts])
    if isinstance(node, ast.Dict):
        return all([is_plain(part) for part in node.keys + node.values])
    return isinstance(node, (ast.Constant, ast.Name))


class Language(unittest.TestCase):
    def test_files(self):
        self.assertIn("__init__.py", [path.name for path in FILES])
        for path in FILES:
            self.assertTrue(path.is_file() and re.fullmatch(r"[a-z][a-z0-9_]*\.py|__init__\.py", path.name), path)
            self.assertNotIn(path.stem, dir(builtins))

    def test_signs_and_sizes(self):
        for path, tree in EACH_FILE:
            text = path.read_text(encoding="utf-8")
            self.assertEqual([sign for sign in text if sign != "\n" and not " " <= sign <= "~"], [])
            self.assertLessEqual(len(text.splitlines()), 400)
            self.assertLessEqual(max([len(line) for line in text.splitlines()]), 120)
            for node in defs_of(tree):
                self.assertLessEqual(node.end_lineno - node.lineno + 1, 40, where(path, node))

    def test_words(self):
        for path, tree in EACH_FILE:
            text = path.read_text(encoding="utf-8")
            self.assertEqual(WORDS.intersection(re.findall(r"\w+", text)), set())
            self.assertIsNone(re.search("dataclass|overload|contextmanager", text))

    def test_top_of_a_file(self):
        for path, tree in EACH_FILE:
            self.assertTrue(ast.get_docstring(tree))
            for node in tree.body[1:]:
                self.assertIsInstance(node, (ast.ImportFrom, ast.FunctionDef, ast.ClassDef, ast.Assign))
                if isinstance(node, ast.Assign):
                    self.assertTrue(is_plain(node.value), where(path, node))
            names = top_names(tree)
            self.assertEqual(len(names), len(set(names)))

    def test_imports(self):
        drawn = {}
        for path, tree in EACH_FILE:
            drawn[path.stem] = []
            for node in own_imports(tree):
                package, stem = node.module.split(".")
                self.assertEqual((package, node.level), ("houserulesbook", 0))
                source = tree_of(PACKAGE / (stem + ".py"))
                for alias in node.names:
                    self.assertIn(alias.name, top_names(source))
                    self.assertIsNone(alias.asname)
                drawn[path.stem].append(stem)
        while drawn:
            free = [stem for stem, others in drawn.items() if not [other for other in others if other in drawn]]
            self.assertTrue(free, "files draw from one another")
            drawn = {stem: others for stem, others in drawn.items() if stem not in free}

    def test_nodes(self):
        for path, tree in EACH_FILE:
            docstring = tree.body[0]
            for node in ast.walk(tree):
                if isinstance(node, ast.stmt):
                    self.assertIsInstance(node, STATEMENTS, where(path, node))
                if isinstance(node, ast.expr):
                    self.assertIsInstance(node, EXPRESSIONS, where(path, node))
                if isinstance(node, ast.Expr) and node != docstring:
                    self.assertIsInstance(node.value, ast.Call, where(path, node))
                if isinstance(node, ast.Assign):
                    self.assertEqual(len(node.targets), 1)
                    self.assertNotIsInstance(node.targets[0], (ast.Tuple, ast.List), where(path, node))
                if isinstance(node, (ast.For, ast.While, ast.Try)):
                    self.assertEqual(getattr(node, "finalbody", []), [])
                    self.assertTrue(isinstance(node, ast.Try) or not node.orelse, where(path, node))
                if isinstance(node, ast.FormattedValue):
                    self.assertIsInstance(node.value, ast.Name, where(path, node))
                    self.assertIsNone(node.format_spec)
                if isinstance(node, ast.ListComp):
                    self.assertEqual(len(node.generators), 1)
                    self.assertLessEqual(len(node.generators[0].ifs), 1)
                if isinstance(node, ast.BinOp):
                    self.assertNotIsInstance(node.op, (ast.Div, ast.Pow), where(path, node))
                if isinstance(node, ast.Constant):
                    self.assertIn(type(node.value), (int, str, bool, type(None)), where(path, node))
                    self.assertNotIn("%", str(node.value))
                if isinstance(node, ast.Compare):
                    for sign, side in zip(node.ops, node.comparators):
                        if isinstance(sign, (ast.Is, ast.IsNot)):
                            self.assertTrue(isinstance(side, ast.Constant), where(path, node))

    def test_functions_and_classes(self):
        for path, tree in EACH_FILE:
            for node in defs_of(tree):
                self.assertEqual(node.decorator_list, [])
                given = node.args
                self.assertEqual((given.vararg, given.kwarg, given.kwonlyargs), (None, None, []))
            for node in tree.body:
                if isinstance(node, ast.ClassDef):
                    self.assertLessEqual(len(node.bases), 1)
                    self.assertTrue(all([isinstance(part, (ast.FunctionDef, ast.Pass)) for part in node.body]))

    def test_names(self):
        for path, tree in EACH_FILE:
            classes = [node.name for node in tree.body if isinstance(node, ast.ClassDef)]
            imported = [alias.name for node in own_imports(tree) for alias in node.names]
            for name in stored_names(tree) + [node.name for node in defs_of(tree)]:
                self.assertTrue(re.fullmatch(r"[A-Za-z][A-Za-z0-9_]*", name) or name == "__init__", name)
                self.assertNotIn(name, NAMES_OUT)
                self.assertNotIn(name, dir(builtins) + classes + imported)
            known = set(stored_names(tree) + top_names(tree) + imported)
            for node in ast.walk(tree):
                if isinstance(node, ast.Name) and node.id not in known:
                    self.assertIn(node.id, BUILTINS, where(path, node))

    def test_attributes(self):
        methods = set()
        kept = set()
        for path in FILES:
            for node in tree_of(path).body:
                if isinstance(node, ast.ClassDef):
                    methods.update([part.name for part in node.body if isinstance(part, ast.FunctionDef)])
            for node in ast.walk(tree_of(path)):
                if isinstance(node, ast.Attribute) and isinstance(node.ctx, ast.Store):
                    kept.add(node.attr)
        self.assertEqual(methods & kept, set())
        self.assertEqual((kept | methods) & (OWN_ATTRIBUTES_OUT | NAMES_OUT), set())
        for path, tree in EACH_FILE:
            called = [node.func for node in ast.walk(tree) if isinstance(node, ast.Call)]
            for node in ast.walk(tree):
                if isinstance(node, ast.Attribute):
                    allowed = METHODS | methods if node in called else kept
                    self.assertIn(node.attr, allowed, where(path, node))


if __name__ == "__main__":
    unittest.main()
