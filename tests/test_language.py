"""The package keeps to LANGUAGE.md, as far as a walk over its files can tell."""

import ast
import builtins
import pathlib
import re
import unittest

PACKAGE = pathlib.Path(__file__).resolve().parent.parent / "bitclauses"

OWN_NAMES = set("""len range enumerate zip min max sum abs sorted reversed int str bool list tuple dict set frozenset
    isinstance ord repr any all divmod Exception ValueError TypeError KeyError IndexError LookupError
    ZeroDivisionError ArithmeticError OverflowError RuntimeError NotImplementedError AttributeError StopIteration
    """.split())
METHODS = set("""append clear copy count endswith extend find get index insert isalnum isalpha isdigit islower isspace
    isupper items join keys ljust lower lstrip partition pop remove replace reverse rfind rjust rpartition rsplit
    rstrip setdefault split splitlines startswith strip update upper values zfill bit_length""".split())
OUT_AS_NAMES = set("""register mro elements open input version_info with_traceback add_note attrgetter breakpoint
    builtins compile copyright credits delattr dir eval exec exit gc getattr globals hasattr help id importlib license
    locals methodcaller os quit setattr super type vars sys format format_map chr""".split())
OUT_AS_WORDS = re.compile(r"""\b(type|typing|typing_extensions|enum|Enum|IntEnum|StrEnum|Flag|IntFlag|Generic|Protocol
    |ABC|ABCMeta|namedtuple|NamedTuple|TypedDict|TYPE_CHECKING|abstractmethod)\b
    |dataclass|overload|contextmanager""", re.VERBOSE)
SPECIAL = ("__init__", "__eq__", "__repr__", "__str__", "__len__", "__all__", "__version__")
FORMS = (
    ast.Module, ast.ImportFrom, ast.alias, ast.FunctionDef, ast.arguments, ast.arg, ast.ClassDef, ast.Assign,
    ast.AugAssign, ast.If, ast.While, ast.For, ast.Return, ast.Break, ast.Continue, ast.Pass, ast.Raise, ast.Try,
    ast.ExceptHandler, ast.Expr, ast.Constant, ast.List, ast.Tuple, ast.Dict, ast.BinOp, ast.UnaryOp, ast.BoolOp,
    ast.Compare, ast.IfExp, ast.Call, ast.keyword, ast.Attribute, ast.Subscript, ast.Slice, ast.ListComp,
    ast.comprehension, ast.JoinedStr, ast.FormattedValue, ast.Lambda, ast.Name, ast.operator, ast.unaryop, ast.boolop,
    ast.cmpop, ast.expr_context,
)
TOP_FORMS = (ast.ImportFrom, ast.FunctionDef, ast.ClassDef, ast.Assign, ast.Expr)


def files():
    return sorted(path for path in PACKAGE.rglob("*") if path.is_file() and "__pycache__" not in path.parts)


def nodes(kind):
    for path in files():
        for node in ast.walk(ast.parse(path.read_text())):
            if isinstance(node, kind):
                yield path.name, node


class Language(unittest.TestCase):
    def test_files(self):
        self.assertIn(PACKAGE / "__init__.py", files())
        for path in files():
            self.assertRegex(path.name, r"\A([a-z][a-z0-9_]*|__init__|__main__)\.py\Z")
            self.assertTrue(path.stem in SPECIAL or not hasattr(builtins, path.stem), path)

    def test_signs_and_lengths(self):
        for path in files():
            data = path.read_bytes()
            self.assertTrue(all(sign == 10 or 32 <= sign <= 126 for sign in data), path)
            rows = data.decode("ascii").split("\n")
            self.assertLessEqual(len(rows), 400, path)
            self.assertLessEqual(max(len(row) for row in rows), 120, path)

    def test_words(self):
        for path in files():
            self.assertIsNone(OUT_AS_WORDS.search(path.read_text()), path)

    def test_forms(self):
        for name, node in nodes(ast.AST):
            self.assertIsInstance(node, FORMS, name)
            self.assertNotIsInstance(node, (ast.Div, ast.MatMult), name)
            if isinstance(node, ast.Constant):
                self.assertIn(type(node.value), (int, str, bool, type(None)), name)
            if isinstance(node, ast.Assign):
                self.assertEqual(len(node.targets), 1, name)
            if isinstance(node, (ast.For, ast.While)):
                self.assertEqual(node.orelse, [], name)
            if isinstance(node, ast.ListComp):
                self.assertEqual(len(node.generators), 1, name)
                self.assertLessEqual(len(node.generators[0].ifs), 1, name)
            if isinstance(node, ast.BinOp) and isinstance(node.op, ast.Pow):
                self.assertIsInstance(node.right, ast.Constant, name)
            if isinstance(node, ast.Compare) and any(isinstance(op, (ast.Is, ast.IsNot)) for op in node.ops):
                self.assertIsInstance(node.comparators[0], ast.Constant, name)

    def test_top_of_files(self):
        for name, module in nodes(ast.Module):
            bound = []
            for node in module.body:
                self.assertIsInstance(node, TOP_FORMS, name)
                if isinstance(node, ast.Expr):
                    self.assertIs(node, module.body[0], name)
                if isinstance(node, ast.Assign):
                    bound.append(node.targets[0].id)
                if isinstance(node, (ast.FunctionDef, ast.ClassDef)):
                    bound.append(node.name)
                if isinstance(node, ast.ImportFrom):
                    bound.extend(alias.name for alias in node.names)
            self.assertEqual(len(bound), len(set(bound)), name)

    def test_imports(self):
        for name, node in nodes(ast.ImportFrom):
            self.assertEqual(node.level, 0, name)
            self.assertTrue(node.module.startswith("bitclauses."), name)
            source = ast.parse((PACKAGE / (node.module.split(".")[1] + ".py")).read_text())
            defined = [d.name for d in source.body if isinstance(d, (ast.FunctionDef, ast.ClassDef))]
            defined += [d.targets[0].id for d in source.body if isinstance(d, ast.Assign)]
            for alias in node.names:
                self.assertIsNone(alias.asname, name)
                self.assertIn(alias.name, defined, name)

    def test_no_two_files_draw_from_one_another(self):
        drawn = {path.stem: set() for path in files()}
        for name, node in nodes(ast.ImportFrom):
            drawn[name[:-3]].add(node.module.split(".")[1])
        settled = set()
        while len(settled) < len(drawn):
            more = {stem for stem in drawn if stem not in settled and drawn[stem] <= settled}
            self.assertTrue(more, drawn)
            settled |= more

    def test_walked_at_once(self):
        allowed = ("list", "tuple", "dict", "sorted", "sum", "any", "all", "enumerate", "zip", "min", "max")
        for path in files():
            fine = []
            found = []
            for node in ast.walk(ast.parse(path.read_text())):
                if isinstance(node, (ast.For, ast.comprehension)):
                    fine.append(ast.dump(node.iter, include_attributes=True))
                if isinstance(node, ast.Call) and isinstance(node.func, ast.Name):
                    if node.func.id in allowed and node.args:
                        fine.append(ast.dump(node.args[0], include_attributes=True))
                    if node.func.id in ("zip", "enumerate", "reversed", "range"):
                        found.append(ast.dump(node, include_attributes=True))
                if isinstance(node, ast.Call) and isinstance(node.func, ast.Attribute):
                    if node.func.attr in ("items", "keys", "values"):
                        found.append(ast.dump(node, include_attributes=True))
            self.assertEqual([node for node in found if node not in fine], [], path)

    def test_values_at_the_top(self):
        for name, module in nodes(ast.Module):
            defined = []
            for node in module.body:
                if isinstance(node, ast.FunctionDef):
                    defined.append(node.name)
                if isinstance(node, ast.Assign):
                    for part in ast.walk(node.value):
                        self.assertIsInstance(part, (ast.Constant, ast.Tuple, ast.UnaryOp, ast.USub, ast.Name, ast.Load))
                        if isinstance(part, ast.Name):
                            self.assertIn(part.id, defined, name)

    def test_defs(self):
        for name, node in nodes(ast.FunctionDef):
            self.assertLessEqual(node.end_lineno - node.lineno + 1, 40, node.name)
            self.assertEqual(node.decorator_list, [], node.name)
            given = node.args
            self.assertFalse(given.vararg or given.kwarg or given.kwonlyargs or given.posonlyargs, node.name)
        for name, node in nodes(ast.ClassDef):
            self.assertEqual(node.decorator_list, [], node.name)
            self.assertLessEqual(len(node.bases), 1, node.name)
            for part in node.body:
                self.assertIsInstance(part, (ast.FunctionDef, ast.Expr), node.name)

    def test_names(self):
        for path in files():
            tree = ast.parse(path.read_text())
            bound = []
            for node in ast.walk(tree):
                if isinstance(node, ast.Name) and isinstance(node.ctx, ast.Store):
                    bound.append(node.id)
                if isinstance(node, ast.arg):
                    bound.append(node.arg)
                if isinstance(node, (ast.FunctionDef, ast.ClassDef)):
                    bound.append(node.name)
            imported = [alias.name for node in ast.walk(tree) if isinstance(node, ast.ImportFrom) for alias in node.names]
            classes = [node.name for node in ast.walk(tree) if isinstance(node, ast.ClassDef)]
            for name in bound:
                self.assertNotIn(name, OUT_AS_NAMES, path)
                self.assertTrue(name in SPECIAL or re.fullmatch("[A-Za-z][A-Za-z0-9_]*", name), (path, name))
                self.assertTrue(name in SPECIAL or not hasattr(builtins, name), (path, name))
                self.assertNotIn(name, imported, path)
            for name in classes:
                self.assertEqual(bound.count(name), 1, path)
            for node in ast.walk(tree):
                if isinstance(node, ast.Name) and isinstance(node.ctx, ast.Load):
                    self.assertTrue(node.id in OWN_NAMES or node.id in bound or node.id in imported, (path, node.id))

    def test_methods_and_values(self):
        methods = [part.name for name, node in nodes(ast.ClassDef) for part in node.body
                   if isinstance(part, ast.FunctionDef)]
        kept = [node.attr for name, node in nodes(ast.Attribute) if isinstance(node.ctx, ast.Store)]
        self.assertEqual(set(methods) & set(kept), set())
        pythons = set(dir(str) + dir(int) + dir(list) + dir(dict) + dir(set) + dir(bytes) + dir(tuple))
        for name in methods + kept:
            self.assertTrue(name in SPECIAL or name not in pythons, name)
            self.assertNotIn(name, OUT_AS_NAMES)
        for name, node in nodes(ast.Attribute):
            self.assertTrue(node.attr in methods or node.attr in kept or node.attr in METHODS, (name, node.attr))


if __name__ == "__main__":
    unittest.main()
