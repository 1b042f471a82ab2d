"""The package's files against those rules of LANGUAGE.md that can be seen in a file."""

import ast
import pathlib
import re
import unittest

PACKAGE = pathlib.Path(__file__).resolve().parent.parent / "bookagain"
STATEMENTS = (ast.Module, ast.FunctionDef, ast.ClassDef, ast.Assign, ast.AugAssign, ast.If, ast.While, ast.For, ast.Return,
              ast.Break, ast.Continue, ast.Pass, ast.Raise, ast.Try, ast.ExceptHandler, ast.Expr, ast.ImportFrom)
EXPRESSIONS = (ast.BoolOp, ast.BinOp, ast.UnaryOp, ast.Lambda, ast.IfExp, ast.Dict, ast.List, ast.Tuple, ast.Compare,
               ast.Call, ast.Constant, ast.Attribute, ast.Subscript, ast.Slice, ast.Name, ast.ListComp, ast.comprehension,
               ast.JoinedStr, ast.FormattedValue, ast.arguments, ast.arg, ast.keyword, ast.alias)
BUILT_IN = """len range enumerate zip min max sum abs sorted reversed int str bool list tuple dict set frozenset isinstance ord
repr any all divmod Exception ValueError TypeError KeyError IndexError LookupError ZeroDivisionError ArithmeticError
OverflowError RuntimeError NotImplementedError AttributeError StopIteration""".split()
METHODS = """append clear copy count endswith extend find get index insert isalnum isalpha isdigit islower isspace isupper items
join keys ljust lower lstrip partition pop remove replace reverse rfind rjust rpartition rsplit rstrip setdefault split
splitlines startswith strip update upper values zfill bit_length""".split()
NO_NAMES = """register mro elements open input version_info with_traceback add_note attrgetter breakpoint builtins compile
copyright credits delattr dir eval exec exit gc getattr globals hasattr help id importlib license locals methodcaller os quit
setattr super vars sys hash next map iter filter format print""".split()
NO_WORDS = """type typing typing_extensions enum Enum IntEnum StrEnum Flag IntFlag Generic Protocol ABC ABCMeta namedtuple
NamedTuple TypedDict TYPE_CHECKING abstractmethod""".split()
INTERFACE = ["writes", "fits", "meant", "stands", "next_of", "sound", "open_of"]


class Language(unittest.TestCase):
    def setUp(self):
        self.texts = {path.name: path.read_bytes().decode("ascii") for path in sorted(PACKAGE.glob("*.py"))}
        self.trees = {name: ast.parse(text) for name, text in self.texts.items()}

    def nodes(self, *kinds):
        for name, tree in self.trees.items():
            for node in ast.walk(tree):
                if isinstance(node, kinds):
                    yield name, node

    def top_names(self, name):
        found = []
        for node in self.trees[name].body:
            if isinstance(node, (ast.FunctionDef, ast.ClassDef)):
                found.append(node.name)
            elif isinstance(node, ast.Assign):
                found.append(node.targets[0].id)
        return found

    def imported(self, name):
        return [(node.module, one.name) for node in self.trees[name].body if isinstance(node, ast.ImportFrom)
                for one in node.names]

    def test_files(self):
        for path in PACKAGE.iterdir():
            if path.name != "__pycache__":
                self.assertRegex(path.name, r"^(__init__|[a-z][a-z0-9_]*)\.py$")
        self.assertIn("__init__.py", self.texts)

    def test_signs_and_sizes(self):
        for name, text in self.texts.items():
            self.assertRegex(text, r"\A[ -~\n]*\n\Z", name)
            rows = text.split("\n")
            self.assertLessEqual(len(rows) - 1, 399, name)
            self.assertLessEqual(max(len(row) for row in rows), 120, name)
        for name, node in self.nodes(ast.FunctionDef):
            self.assertLessEqual(node.end_lineno - node.lineno + 1, 40, node.name)

    def test_words_that_stand_nowhere(self):
        for name, text in self.texts.items():
            words = re.findall(r"\w+", text)
            self.assertEqual([word for word in words if word in NO_WORDS], [], name)
            self.assertEqual(re.findall("dataclass|overload|contextmanager", text), [], name)

    def test_forms(self):
        for name, node in self.nodes(ast.stmt, ast.expr, ast.excepthandler, ast.comprehension):
            self.assertIsInstance(node, STATEMENTS + EXPRESSIONS, (name, node.lineno if hasattr(node, "lineno") else node))
        for name, node in self.nodes(ast.For, ast.While, ast.Try):
            self.assertFalse(isinstance(node, (ast.For, ast.While)) and node.orelse, name)
            self.assertFalse(isinstance(node, ast.Try) and node.finalbody, name)
        for name, node in self.nodes(ast.Assign):
            self.assertEqual(len(node.targets), 1, name)
        for name, node in self.nodes(ast.Div, ast.MatMult, ast.Starred):
            self.fail((name, node))
        for name, node in self.nodes(ast.Constant):
            self.assertIsInstance(node.value, (int, str, bool, type(None)), name)
            self.assertNotIn("%", str(node.value), name)
        for name, node in self.nodes(ast.ListComp):
            self.assertEqual((len(node.generators), len(node.generators[0].ifs) <= 1), (1, True), name)
        for name, node in self.nodes(ast.Compare):
            for operator, other in zip(node.ops, node.comparators):
                if isinstance(operator, (ast.Is, ast.IsNot)):
                    self.assertIn(getattr(other, "value", 0), (None, True, False), name)

    def test_defs_and_classes(self):
        for name, node in self.nodes(ast.FunctionDef):
            given = node.args
            self.assertFalse(given.vararg or given.kwarg or given.kwonlyargs or given.posonlyargs or node.decorator_list, name)
            self.assertTrue(all(isinstance(one, ast.Constant) for one in given.defaults), name)
            self.assertIsNone(node.returns, name)
            self.assertTrue(all(one.annotation is None for one in given.args), name)
        for name, node in self.nodes(ast.ClassDef):
            self.assertLessEqual(len(node.bases), 1, name)
            self.assertFalse(node.decorator_list or node.keywords, name)
            methods = [one.name for one in node.body if isinstance(one, ast.FunctionDef)]
            self.assertEqual(len(methods), len(set(methods)), node.name)
            self.assertTrue(all(isinstance(one, (ast.FunctionDef, ast.Pass)) for one in node.body), node.name)

    def test_tops(self):
        for name, tree in self.trees.items():
            self.assertEqual(len(self.top_names(name)), len(set(self.top_names(name))), name)
            self.assertIsNotNone(ast.get_docstring(tree), name)
            for node in tree.body[1:]:
                self.assertIsInstance(node, (ast.ImportFrom, ast.FunctionDef, ast.ClassDef, ast.Assign), name)

    def test_imports(self):
        drawn = {}
        for name in self.texts:
            drawn[name] = set()
            for module, word in self.imported(name):
                self.assertRegex(module, r"^bookagain\.[a-z_]+$")
                source = module.split(".")[1] + ".py"
                self.assertIn(word, self.top_names(source), name)
                self.assertEqual(len(re.findall(r"\b" + word + r"\b", self.texts[name])) > 1, True, (name, word))
                drawn[name].add(source)
        while drawn:
            free = [name for name in drawn if not drawn[name] & set(drawn)]
            self.assertTrue(free, "files draw from one another")
            for name in free:
                drawn.pop(name)
        self.assertEqual(self.top_names("__init__.py") + self.imported("__init__.py"), [])

    def test_the_interface(self):
        for name in self.texts:
            if name == "errand.py":
                for word in INTERFACE:
                    self.assertIn(word, self.top_names(name))
            else:
                self.assertFalse(set(INTERFACE) & set(self.top_names(name)), name)

    def test_names(self):
        for name, node in self.nodes(ast.Name, ast.arg, ast.FunctionDef, ast.ClassDef, ast.Attribute):
            word = getattr(node, "id", None) or getattr(node, "arg", None) or getattr(node, "name", None) or node.attr
            self.assertNotIn(word, NO_NAMES, name)
            if word != "__init__":
                self.assertRegex(word, r"^[A-Za-z][A-Za-z0-9_]*$", name)
        for name, node in self.nodes(ast.FunctionDef):
            held = [one.arg for one in node.args.args]
            held += [one.id for one in ast.walk(node) if isinstance(one, ast.Name) and isinstance(one.ctx, ast.Store)]
            beside = BUILT_IN + [word for module, word in self.imported(name)]
            beside += [one.name for one in self.trees[name].body if isinstance(one, ast.ClassDef)]
            self.assertEqual([word for word in held if word in beside], [], (name, node.name))

    def test_names_are_known(self):
        for name, tree in self.trees.items():
            known = set(self.top_names(name)) | {word for module, word in self.imported(name)} | set(BUILT_IN)
            for top in tree.body:
                for node in ast.walk(top):
                    if isinstance(node, ast.FunctionDef):
                        here = {one.arg for one in ast.walk(node) if isinstance(one, ast.arg)}
                        here |= {one.id for one in ast.walk(node) if isinstance(one, ast.Name) and isinstance(one.ctx, ast.Store)}
                        read = {one.id for one in ast.walk(node) if isinstance(one, ast.Name)}
                        self.assertEqual(read - here - known, set(), (name, node.name))

    def test_methods_and_values(self):
        methods = {one.name for name, node in self.nodes(ast.ClassDef) for one in node.body if isinstance(one, ast.FunctionDef)}
        values = {node.attr for name, node in self.nodes(ast.Attribute) if isinstance(node.ctx, ast.Store)}
        self.assertEqual(methods & values, set())
        own = set(dir(str)) | set(dir(int)) | set(dir(list)) | set(dir(dict)) | set(dir(set)) | set(dir(bytes))
        self.assertEqual((methods | values) & own - {"__init__"}, set())
        called = {node.func.attr for name, node in self.nodes(ast.Call) if isinstance(node.func, ast.Attribute)}
        self.assertEqual(called - methods - set(METHODS) - {"__init__"}, set())

    def test_lists_at_the_top_are_only_read(self):
        for name, tree in self.trees.items():
            held = [node.targets[0].id for node in tree.body if isinstance(node, ast.Assign)
                    and isinstance(node.value, (ast.List, ast.Tuple, ast.Dict))]
            spots = [id(one.value) for one in ast.walk(tree) if isinstance(one, ast.Subscript)]
            spots += [id(one.args[0]) for one in ast.walk(tree) if isinstance(one, ast.Call)
                      and isinstance(one.func, ast.Name) and one.func.id in ("len", "list", "tuple", "dict") and one.args]
            for node in ast.walk(tree):
                if isinstance(node, ast.Name) and node.id in held and isinstance(node.ctx, ast.Load):
                    self.assertIn(id(node), spots, (name, node.id, node.lineno))
