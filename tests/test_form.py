"""The package's own form: what of ../shared/LANGUAGE.md can be seen by walking the files."""

import ast
import builtins
import pathlib
import re
import unittest

PACKAGE = pathlib.Path(__file__).resolve().parent.parent / "linkpieces"

STATEMENTS = (ast.FunctionDef, ast.ClassDef, ast.Assign, ast.AugAssign, ast.If, ast.While, ast.For, ast.Return,
              ast.Break, ast.Continue, ast.Pass, ast.Raise, ast.Try, ast.Expr, ast.ImportFrom)
EXPRESSIONS = (ast.Constant, ast.List, ast.Tuple, ast.Dict, ast.BinOp, ast.UnaryOp, ast.Compare, ast.BoolOp,
               ast.IfExp, ast.Call, ast.Attribute, ast.Subscript, ast.Slice, ast.ListComp, ast.Name, ast.Lambda)
OWN_NAMES = """len range enumerate zip min max sum abs sorted reversed int str bool list tuple dict set frozenset
isinstance ord repr any all divmod Exception ValueError TypeError KeyError IndexError LookupError ZeroDivisionError
ArithmeticError OverflowError RuntimeError NotImplementedError AttributeError StopIteration""".split()
METHODS = """append clear copy count endswith extend find get index insert isalnum isalpha isdigit islower isspace
isupper items join keys ljust lower lstrip partition pop remove replace reverse rfind rjust rpartition rsplit rstrip
setdefault split splitlines startswith strip update upper values zfill bit_length""".split()
WORDS_NOWHERE = """type typing typing_extensions enum Enum IntEnum StrEnum Flag IntFlag Generic Protocol ABC ABCMeta
namedtuple NamedTuple TypedDict TYPE_CHECKING abstractmethod""".split()
PARTS_NOWHERE = ("dataclass", "overload", "contextmanager")
NAMES_NOT_USED = """register mro elements open input version_info with_traceback add_note attrgetter breakpoint builtins
compile copyright credits delattr dir eval exec exit gc getattr globals hasattr help id importlib license locals
methodcaller os quit setattr super type vars sys""".split()
KEYWORDS = {"sorted": ("key", "reverse"), "min": ("key", "default"), "max": ("key", "default"), "sum": ("start",),
            "enumerate": ("start",), "zip": ("strict",)}
VALUES_NOT_SO_CALLED = """items keys values pop update append clear extend insert remove reverse setdefault sort args
encode format""".split()


def is_docstring(node):
    return isinstance(node, ast.Expr) and isinstance(node.value, ast.Constant) and isinstance(node.value.value, str)


def names_bound_in(tree):
    """Every name that a def, a class, a parameter, an import or an assignment gives."""
    named = [node.name for node in ast.walk(tree) if isinstance(node, (ast.FunctionDef, ast.ClassDef))]
    named += [node.arg for node in ast.walk(tree) if isinstance(node, ast.arg)]
    named += [node.name for node in ast.walk(tree) if isinstance(node, ast.alias)]
    named += [node.id for node in ast.walk(tree) if isinstance(node, ast.Name) and isinstance(node.ctx, ast.Store)]
    return named


class FormTest(unittest.TestCase):
    @classmethod
    def setUpClass(cls):
        cls.texts = {path.stem: path.read_text(encoding="utf-8") for path in sorted(PACKAGE.glob("*.py"))}
        cls.trees = {name: ast.parse(text) for name, text in cls.texts.items()}

    def walk_all(self, kind):
        return [(name, node) for name, tree in self.trees.items() for node in ast.walk(tree) if isinstance(node, kind)]

    def test_files(self):
        entries = [path.name for path in PACKAGE.iterdir() if path.name != "__pycache__"]
        self.assertIn("__init__.py", entries)
        self.assertEqual([name for name in entries if not re.fullmatch(r"[a-z][a-z0-9_]*\.py|__init__\.py", name)], [])

    def test_signs_and_sizes(self):
        for name, text in self.texts.items():
            lines = text.split("\n")
            self.assertEqual([c for c in text if not (" " <= c <= "~" or c == "\n")], [], name)
            self.assertLess(len(lines), 400, name)
            self.assertLessEqual(max(len(line) for line in lines), 120, name)
        for name, node in self.walk_all(ast.FunctionDef):
            self.assertLessEqual(node.end_lineno - node.lineno + 1, 40, (name, node.name))

    def test_words_that_stand_nowhere(self):
        for name, text in self.texts.items():
            words = re.findall(r"[A-Za-z0-9_]+", text)
            self.assertEqual([word for word in words if word in WORDS_NOWHERE], [], name)
            self.assertEqual([part for part in PARTS_NOWHERE if part in text], [], name)

    def test_imports(self):
        for name, node in self.walk_all((ast.Import, ast.ImportFrom)):
            self.assertIsInstance(node, ast.ImportFrom, name)
            self.assertIn(node, self.trees[name].body, name)
            package, dot, module = node.module.partition(".")
            self.assertEqual((node.level, package), (0, "linkpieces"), name)
            defined = [word for top in self.trees[module].body if not isinstance(top, ast.ImportFrom)
                       for word in names_bound_in(top)]
            self.assertEqual([alias.name for alias in node.names if alias.name not in defined], [], name)

    def test_no_files_draw_from_one_another(self):
        drawn = {name: {node.module.partition(".")[2] for node in tree.body if isinstance(node, ast.ImportFrom)}
                 for name, tree in self.trees.items()}
        while drawn:
            free = [name for name in drawn if not drawn[name] & set(drawn)]
            self.assertTrue(free, drawn)
            drawn = {name: drawn[name] for name in drawn if name not in free}

    def test_statements(self):
        for name, node in self.walk_all(ast.stmt):
            where = (name, node.lineno)
            self.assertIsInstance(node, STATEMENTS, where)
            if isinstance(node, ast.Expr) and node is not self.trees[name].body[0]:
                self.assertIsInstance(node.value, ast.Call, where)
            if isinstance(node, (ast.While, ast.For)):
                self.assertEqual(node.orelse, [], where)
            if isinstance(node, ast.Assign):
                self.assertEqual(len(node.targets), 1, where)
        for name, tree in self.trees.items():
            self.assertTrue(is_docstring(tree.body[0]), name)

    def test_expressions(self):
        for name, node in self.walk_all(ast.expr):
            where = (name, node.lineno)
            self.assertIsInstance(node, EXPRESSIONS, where)
            if isinstance(node, ast.Constant):
                self.assertIsInstance(node.value, (int, str, type(None)), where)
            if isinstance(node, ast.BinOp):
                self.assertNotIsInstance(node.op, (ast.Div, ast.MatMult), where)
            if isinstance(node, ast.Compare) and any(isinstance(op, (ast.Is, ast.IsNot)) for op in node.ops):
                self.assertIsInstance(node.comparators[0], ast.Constant, where)

    def test_names(self):
        for name, tree in self.trees.items():
            bound = names_bound_in(tree)
            for word in bound:
                self.assertTrue(re.fullmatch(r"[A-Za-z][A-Za-z0-9_]*|__init__", word), (name, word))
                self.assertFalse(word in dir(builtins), (name, word))
            self.assertEqual([node.id for node in ast.walk(tree) if isinstance(node, ast.Name)
                              and node.id not in bound and node.id not in OWN_NAMES], [], name)

    def test_names_that_are_not_used(self):
        for name, tree in self.trees.items():
            used = names_bound_in(tree) + [node.id for node in ast.walk(tree) if isinstance(node, ast.Name)]
            used += [node.attr for node in ast.walk(tree) if isinstance(node, ast.Attribute)]
            self.assertEqual([word for word in used if word in NAMES_NOT_USED], [], name)

    def test_no_parameter_or_local_is_called_like_a_class_or_an_import(self):
        for name, tree in self.trees.items():
            taken = [part.name for node in tree.body if isinstance(node, ast.ImportFrom) for part in node.names]
            taken += [node.name for node in tree.body if isinstance(node, ast.ClassDef)]
            inner = [word for node in tree.body if isinstance(node, (ast.FunctionDef, ast.ClassDef))
                     for part in node.body for word in names_bound_in(part)]
            inner += [node.arg for node in ast.walk(tree) if isinstance(node, ast.arg)]
            self.assertEqual([word for word in inner if word in taken], [], name)

    def test_a_files_top_binds_each_name_once_to_a_plain_value(self):
        for name, tree in self.trees.items():
            bound = [part.name for node in tree.body if isinstance(node, ast.ImportFrom) for part in node.names]
            bound += [node.name for node in tree.body if isinstance(node, (ast.FunctionDef, ast.ClassDef))]
            for node in tree.body[1:]:
                self.assertIsInstance(node, (ast.ImportFrom, ast.FunctionDef, ast.ClassDef, ast.Assign), name)
                if isinstance(node, ast.Assign):
                    ast.literal_eval(node.value)
                    bound.append(node.targets[0].id)
            self.assertEqual(len(bound), len(set(bound)), name)

    def test_keywords_and_texts(self):
        for name, node in self.walk_all(ast.Call):
            allowed = KEYWORDS.get(node.func.id, ()) if isinstance(node.func, ast.Name) else ()
            self.assertEqual([part.arg for part in node.keywords if part.arg not in allowed], [], (name, node.lineno))
        for name, node in self.walk_all(ast.Constant):
            self.assertFalse(isinstance(node.value, str) and "%" in node.value, (name, node.lineno))
        for name, node in self.walk_all((ast.arg, ast.FunctionDef)):
            self.assertIsNone(node.annotation if isinstance(node, ast.arg) else node.returns, name)

    def test_methods_and_values(self):
        methods = [part.name for name, node in self.walk_all(ast.ClassDef) for part in node.body]
        values = [node.attr for name, node in self.walk_all(ast.Attribute) if isinstance(node.ctx, ast.Store)]
        self.assertEqual(set(methods) & set(values), set())
        self.assertEqual(set(values) & set(VALUES_NOT_SO_CALLED), set())
        for name, node in self.walk_all(ast.Attribute):
            self.assertIn(node.attr, METHODS + methods + values, (name, node.lineno))

    def test_defs_are_plain(self):
        for name, node in self.walk_all((ast.FunctionDef, ast.ClassDef)):
            self.assertEqual(node.decorator_list, [], (name, node.name))
        for name, node in self.walk_all(ast.arguments):
            self.assertEqual((node.vararg, node.kwarg, node.kwonlyargs, node.posonlyargs), (None, None, [], []), name)

    def test_the_interface_is_defined_once_where_its_name_tells(self):
        places = [name for name, node in self.walk_all(ast.FunctionDef) if node.name == "answers"]
        self.assertEqual(places, ["desk"])
        defined = [node for node in self.trees["desk"].body if isinstance(node, ast.FunctionDef)
                   and node.name == "answers"][0]
        self.assertEqual([part.arg for part in defined.args.args], ["calls"])
        self.assertEqual(defined.args.defaults, [])
