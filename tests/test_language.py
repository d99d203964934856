"""The package's files keep to the small part of Python: those of its rules that a plain look at the code can see."""

import ast
import builtins
import pathlib
import re
import unittest

PACKAGE = pathlib.Path(__file__).resolve().parent.parent / "goalfields"
STATEMENTS = (ast.Assign, ast.AugAssign, ast.If, ast.While, ast.For, ast.Return, ast.Break, ast.Continue, ast.Pass,
              ast.Raise, ast.Try, ast.Expr, ast.FunctionDef, ast.ClassDef, ast.ImportFrom)
EXPRESSIONS = (ast.Constant, ast.List, ast.Tuple, ast.Dict, ast.BinOp, ast.UnaryOp, ast.BoolOp, ast.Compare, ast.IfExp,
               ast.Call, ast.Attribute, ast.Subscript, ast.Slice, ast.ListComp, ast.Name, ast.Lambda, ast.JoinedStr,
               ast.FormattedValue)
OWN_NAMES = """len range enumerate zip min max sum abs sorted reversed int str bool list tuple dict set frozenset
isinstance ord repr any all divmod Exception ValueError TypeError KeyError IndexError LookupError ZeroDivisionError
ArithmeticError OverflowError RuntimeError NotImplementedError AttributeError StopIteration""".split()
METHODS = """append clear copy count endswith extend find get index insert isalnum isalpha isdigit islower isspace
isupper items join keys ljust lower lstrip partition pop remove replace reverse rfind rjust rpartition rsplit rstrip
setdefault split splitlines startswith strip update upper values zfill bit_length""".split()
WORDS = """type typing typing_extensions enum Enum IntEnum StrEnum Flag IntFlag Generic Protocol ABC ABCMeta namedtuple
NamedTuple TypedDict TYPE_CHECKING abstractmethod""".split()
UNUSED = "register mro elements open input version_info with_traceback add_note format format_map".split()
CHANGING = "append clear extend insert pop remove reverse setdefault update".split()
WALKED = ("zip", "enumerate", "reversed", "range")
UNDERSCORED = ("__init__", "__eq__", "__repr__", "__str__", "__len__")
PYTHONS_OWN = [name for kind in (str, int, list, dict, set, bytes, tuple) for name in dir(kind)]


def plain(node):
    """True for what may stand at a file's top as a value."""
    if isinstance(node, (ast.List, ast.Tuple)):
        return all(plain(part) for part in node.elts)
    if isinstance(node, ast.Dict):
        return all(plain(part) for part in node.keys + node.values)
    if isinstance(node, ast.UnaryOp):
        return isinstance(node.op, ast.USub) and plain(node.operand)
    return isinstance(node, (ast.Constant, ast.Name))


class LanguageTest(unittest.TestCase):
    @classmethod
    def setUpClass(cls):
        cls.texts = {path.name: path.read_text("utf-8") for path in sorted(PACKAGE.glob("*.py"))}
        cls.trees = {name: ast.parse(text) for name, text in cls.texts.items()}

    def nodes(self, *kinds):
        for name, tree in self.trees.items():
            for node in ast.walk(tree):
                if isinstance(node, kinds):
                    yield "%s:%d" % (name, getattr(node, "lineno", 0)), node

    def test_files(self):
        found = sorted(path.name for path in PACKAGE.iterdir() if path.name != "__pycache__")
        self.assertEqual(found, sorted(self.texts))
        self.assertIn("__init__.py", found)
        for name in found:
            self.assertRegex(name, r"^[a-z0-9_]+\.py$")
            self.assertNotIn(name[:-3], dir(builtins))

    def test_signs_words_and_sizes(self):
        for name, text in self.texts.items():
            self.assertRegex(text, r"\A[ -~\n]*\Z", name)
            self.assertEqual([word for word in re.findall(r"\w+", text) if word in WORDS], [], name)
            self.assertIsNone(re.search("dataclass|overload|contextmanager", text), name)
            self.assertLessEqual(len(text.splitlines()), 400, name)
            self.assertLessEqual(max(map(len, text.splitlines())), 120, name)
        for where, node in self.nodes(ast.FunctionDef):
            self.assertLessEqual(node.end_lineno - node.lineno + 1, 40, where)

    def test_imports_are_the_packages_own(self):
        for where, node in self.nodes(ast.Import, ast.ImportFrom):
            self.assertIsInstance(node, ast.ImportFrom, where)
            self.assertEqual(node.level, 0, where)
            package, name = node.module.split(".")
            self.assertEqual(package, "goalfields", where)
            for drawn in node.names:
                self.assertIsNone(drawn.asname, where)
                tops = [top.name for top in self.trees[name + ".py"].body if hasattr(top, "name")]
                self.assertIn(drawn.name, tops, where)

    def test_the_top_of_a_file(self):
        for name, tree in self.trees.items():
            bound = []
            self.assertIsNotNone(ast.get_docstring(tree), name)
            for node in tree.body[1:]:
                where = "%s:%d" % (name, node.lineno)
                self.assertIsInstance(node, (ast.ImportFrom, ast.FunctionDef, ast.ClassDef, ast.Assign), where)
                if isinstance(node, ast.Assign):
                    self.assertTrue(plain(node.value), where)
                    bound.append(node.targets[0].id)
                elif not isinstance(node, ast.ImportFrom):
                    bound.append(node.name)
            self.assertEqual(len(bound), len(set(bound)), name)

    def test_statements_and_expressions(self):
        for where, node in self.nodes(ast.stmt):
            self.assertIsInstance(node, STATEMENTS, where)
            self.assertEqual(getattr(node, "decorator_list", []), [], where)
            if isinstance(node, ast.Assign):
                self.assertEqual(len(node.targets), 1, where)
            if isinstance(node, (ast.While, ast.For)):
                self.assertEqual(node.orelse, [], where)
            if isinstance(node, ast.Try):
                self.assertEqual(node.finalbody, [], where)
            if isinstance(node, ast.Expr):
                self.assertIsInstance(node.value, (ast.Call, ast.Constant), where)
        for where, node in self.nodes(ast.expr):
            self.assertIsInstance(node, EXPRESSIONS, where)
            if isinstance(node, ast.Constant):
                self.assertIn(type(node.value), (int, str, bool, type(None)), where)
            if isinstance(node, ast.BinOp):
                self.assertNotIsInstance(node.op, (ast.Div, ast.MatMult), where)
            if isinstance(node, ast.ListComp):
                self.assertEqual(len(node.generators), 1, where)
                self.assertLessEqual(len(node.generators[0].ifs), 1, where)
            if isinstance(node, ast.Compare) and isinstance(node.ops[0], (ast.Is, ast.IsNot)):
                self.assertIn(getattr(node.comparators[0], "value", 0), (None, True, False), where)
        for where, node in self.nodes(ast.arguments):
            self.assertEqual((node.vararg, node.kwarg, node.kwonlyargs, node.posonlyargs), (None, None, [], []), where)

    def test_names(self):
        for where, node in self.nodes(ast.Name, ast.arg, ast.FunctionDef, ast.ClassDef, ast.Attribute):
            name = getattr(node, "id", None) or getattr(node, "arg", None) or getattr(node, "name", None) or node.attr
            self.assertNotIn(name, UNUSED, where)
            if isinstance(node, ast.FunctionDef) and name in UNDERSCORED:
                continue
            self.assertRegex(name, r"^[A-Za-z][A-Za-z0-9_]*$", where)
            if isinstance(node, ast.Name) and isinstance(node.ctx, ast.Load):
                self.assertTrue(name in OWN_NAMES or name not in dir(builtins), "%s %s" % (where, name))
            elif not isinstance(node, ast.Attribute):
                self.assertNotIn(name, dir(builtins), where)

    def test_methods_and_values(self):
        methods = [part.name for where, node in self.nodes(ast.ClassDef) for part in node.body
                   if isinstance(part, ast.FunctionDef)]
        stored = [node.attr for where, node in self.nodes(ast.Attribute) if isinstance(node.ctx, ast.Store)]
        self.assertEqual(sorted(set(methods) & set(stored)), [])
        for name in methods + stored:
            self.assertTrue(name in UNDERSCORED or name not in PYTHONS_OWN, name)
        for where, node in self.nodes(ast.Call):
            if isinstance(node.func, ast.Attribute):
                self.assertTrue(node.func.attr in methods or node.func.attr in METHODS, where)

    def test_walked_at_once(self):
        walked = [id(node.iter) for where, node in self.nodes(ast.For, ast.comprehension)]
        walked += [id(node.args[0]) for where, node in self.nodes(ast.Call) if node.args]
        for where, node in self.nodes(ast.Call):
            name = getattr(node.func, "id", None) or getattr(node.func, "attr", None)
            if name in WALKED or name in ("items", "keys", "values"):
                self.assertIn(id(node), walked, where)

    def test_what_the_package_does_without(self):
        """Some rules let a form stand under conditions; the package keeps them by not using the form at all."""
        for where, node in self.nodes(ast.Try, ast.Raise, ast.JoinedStr, ast.Pow, ast.AnnAssign):
            self.fail("%s %s" % (where, type(node).__name__))
        for where, node in self.nodes(ast.Name):
            self.assertNotIn(node.id, ("set", "frozenset", "chr"), where)
        for where, node in self.nodes(ast.arg):
            self.assertIsNone(node.annotation, where)
        for where, node in self.nodes(ast.FunctionDef):
            self.assertIsNone(node.returns, where)
            self.assertEqual(node.args.defaults, [], where)
            self.assertNotIn(node.name, UNDERSCORED[1:], where)
        for where, node in self.nodes(ast.Constant):
            if isinstance(node.value, str):
                self.assertNotIn("%", node.value, where)

    def test_keywords_are_keys_alone(self):
        for where, node in self.nodes(ast.Call):
            if node.keywords:
                self.assertIn(getattr(node.func, "id", None), ("sorted", "min", "max"), where)
                self.assertEqual([keyword.arg for keyword in node.keywords], ["key"], where)
                self.assertIsInstance(node.keywords[0].value, ast.Lambda, where)

    def test_no_two_files_draw_from_one_another(self):
        drawn = {}
        for name, tree in self.trees.items():
            drawn[name] = [node.module.split(".")[1] + ".py" for node in tree.body if isinstance(node, ast.ImportFrom)]
        while drawn:
            free = [name for name in drawn if not [other for other in drawn[name] if other in drawn]]
            self.assertNotEqual(free, [], drawn)
            drawn = {name: drawn[name] for name in drawn if name not in free}

    def test_locals_are_not_called_like_what_is_at_the_top(self):
        for name, tree in self.trees.items():
            tops = [part.name for node in tree.body if isinstance(node, ast.ImportFrom) for part in node.names]
            tops += [node.name for node in tree.body if isinstance(node, (ast.ClassDef, ast.FunctionDef))]
            tops += [node.targets[0].id for node in tree.body if isinstance(node, ast.Assign)]
            for function in [node for node in ast.walk(tree) if isinstance(node, (ast.FunctionDef, ast.Lambda))]:
                for node in ast.walk(function):
                    bound = node.arg if isinstance(node, ast.arg) else ""
                    if isinstance(node, ast.Name) and isinstance(node.ctx, ast.Store):
                        bound = node.id
                    self.assertNotIn(bound, tops, "%s:%d" % (name, function.lineno))

    def test_what_a_loop_walks_is_not_changed_in_it(self):
        for where, loop in self.nodes(ast.For):
            walked = [ast.unparse(node) for node in ast.walk(loop.iter) if isinstance(node, (ast.Name, ast.Attribute))]
            for node in [node for part in loop.body for node in ast.walk(part)]:
                changed = ""
                if isinstance(node, ast.Subscript) and isinstance(node.ctx, ast.Store):
                    changed = ast.unparse(node.value)
                elif isinstance(node, (ast.Name, ast.Attribute)) and isinstance(node.ctx, ast.Store):
                    changed = ast.unparse(node)
                elif isinstance(node, ast.Call) and isinstance(node.func, ast.Attribute) and node.func.attr in CHANGING:
                    changed = ast.unparse(node.func.value)
                self.assertNotIn(changed, walked, where)


if __name__ == "__main__":
    unittest.main()
