"""The package's files keep to the part of Python that the program is written in (rules L1 to L28)."""

import ast
import builtins
import pathlib
import re
import unittest

PACKAGE = pathlib.Path(__file__).resolve().parent.parent / "voicesled"
STATEMENTS = (ast.Assign, ast.AugAssign, ast.If, ast.While, ast.For, ast.Return, ast.Break, ast.Continue, ast.Pass,
              ast.Raise, ast.Try, ast.Expr, ast.FunctionDef, ast.ClassDef, ast.ImportFrom)
EXPRESSIONS = (ast.Constant, ast.List, ast.Tuple, ast.Dict, ast.BinOp, ast.UnaryOp, ast.Compare, ast.BoolOp,
               ast.IfExp, ast.Call, ast.Attribute, ast.Subscript, ast.Slice, ast.ListComp, ast.Name, ast.Lambda,
               ast.JoinedStr, ast.FormattedValue)
BUILTINS = set("""len range enumerate zip min max sum abs sorted reversed int str bool list tuple dict set frozenset
    isinstance ord repr any all divmod Exception ValueError TypeError KeyError IndexError LookupError
    ZeroDivisionError ArithmeticError OverflowError RuntimeError NotImplementedError""".split())
METHODS = set("""append clear copy count endswith extend find get index insert isalnum isalpha isdigit islower isspace
    isupper items join keys ljust lower lstrip partition pop remove replace reverse rfind rjust rpartition rsplit
    rstrip setdefault split splitlines startswith strip update upper values zfill bit_length""".split())
WORDS = set("""type typing typing_extensions enum Enum IntEnum StrEnum Flag IntFlag Generic Protocol ABC ABCMeta
    namedtuple NamedTuple TypedDict TYPE_CHECKING abstractmethod register mro elements open input version_info
    with_traceback add_note""".split())
LAZY = ("zip", "enumerate", "reversed", "range", "items", "keys", "values")
WALKERS = ("list", "tuple", "dict", "sorted", "sum", "any", "all", "enumerate", "zip", "min", "max")
OWN_KINDS = (str, int, list, dict, set, bytes, tuple)


def paths():
    return sorted(path for path in PACKAGE.rglob("*") if "__pycache__" not in path.parts)


def trees():
    return {path.stem: ast.parse(path.read_text(encoding="utf-8")) for path in paths()}


def nodes(kind):
    for name, tree in trees().items():
        for node in ast.walk(tree):
            if isinstance(node, kind):
                yield name, node


def called_name(node):
    return node.func.id if isinstance(node.func, ast.Name) else node.func.attr


def top_names(tree):
    found = []
    for node in tree.body:
        if isinstance(node, (ast.FunctionDef, ast.ClassDef)):
            found.append(node.name)
        if isinstance(node, ast.Assign):
            found.append(node.targets[0].id)
        if isinstance(node, ast.ImportFrom):
            found += [alias.name for alias in node.names]
    return found


def own_methods():
    return {node.name for _, owner in nodes(ast.ClassDef) for node in owner.body if isinstance(node, ast.FunctionDef)}


def own_values():
    return {node.attr for _, node in nodes(ast.Attribute) if isinstance(node.ctx, ast.Store)}


class Files(unittest.TestCase):
    def test_names(self):
        self.assertIn("__init__.py", [path.name for path in paths()])
        for path in paths():
            self.assertTrue(path.is_file())
            self.assertRegex(path.name, r"^(__init__|[a-z][a-z0-9_]*)\.py$")
            self.assertNotIn(path.stem, vars(builtins))

    def test_sizes(self):
        for path in paths():
            lines = path.read_text(encoding="utf-8").split("\n")
            self.assertLessEqual(len(lines), 400)
            self.assertLessEqual(max(len(line) for line in lines), 120)
        for _, node in nodes(ast.FunctionDef):
            self.assertLessEqual(node.end_lineno - node.lineno + 1, 40, node.name)

    def test_signs_and_words(self):
        for path in paths():
            text = path.read_text(encoding="utf-8")
            self.assertRegex(text, r"\A[ -~\n]*\Z")
            self.assertEqual(set(re.findall(r"\w+", text)) & WORDS, set())
            self.assertIsNone(re.search("dataclass|overload|contextmanager", text))

    def test_the_top_of_a_file(self):
        for name, tree in trees().items():
            for node in tree.body:
                self.assertIsInstance(node, (ast.Expr, ast.ImportFrom, ast.FunctionDef, ast.ClassDef, ast.Assign))
                if isinstance(node, ast.Assign):
                    ast.literal_eval(node.value)
                if isinstance(node, ast.Expr):
                    self.assertIs(node, tree.body[0])
            self.assertEqual(len(top_names(tree)), len(set(top_names(tree))), name)

    def test_imports(self):
        drawn = {}
        for name, node in nodes(ast.ImportFrom):
            self.assertEqual((node.level, node.col_offset, node.module.split(".")[0]), (0, 0, "voicesled"))
            source = node.module.split(".")[1]
            drawn.setdefault(name, set()).add(source)
            for alias in node.names:
                self.assertIsNone(alias.asname)
                defined = [top for statement in trees()[source].body if not isinstance(statement, ast.ImportFrom)
                           for top in top_names(ast.Module([statement], []))]
                self.assertIn(alias.name, defined)
        while drawn:
            free = [name for name in drawn if not drawn[name] & set(drawn)]
            self.assertTrue(free, "files draw from one another")
            drawn = {name: drawn[name] for name in drawn if name not in free}


class Forms(unittest.TestCase):
    def test_statements_and_expressions(self):
        for name, node in nodes((ast.stmt, ast.expr)):
            kinds = STATEMENTS if isinstance(node, ast.stmt) else EXPRESSIONS
            self.assertIsInstance(node, kinds, f"{name}: {node.lineno}")
        for _, node in nodes(ast.Constant):
            self.assertIn(type(node.value), (int, str, bool, type(None)))
        for _, node in nodes(ast.BinOp):
            self.assertNotIsInstance(node.op, (ast.Div, ast.MatMult))
        for _, node in nodes(ast.Assign):
            self.assertEqual(len(node.targets), 1)
        for _, node in nodes((ast.For, ast.While)):
            self.assertEqual(node.orelse, [])
        for _, node in nodes(ast.ListComp):
            self.assertEqual(len(node.generators), 1)
            self.assertLessEqual(len(node.generators[0].ifs), 1)

    def test_is_stands_beside_none(self):
        for _, node in nodes(ast.Compare):
            if isinstance(node.ops[0], (ast.Is, ast.IsNot)):
                self.assertIsInstance(node.comparators[0], ast.Constant)

    def test_functions_and_classes(self):
        for _, node in nodes((ast.FunctionDef, ast.ClassDef)):
            self.assertEqual(node.decorator_list, [])
        for _, node in nodes(ast.FunctionDef):
            self.assertIsNone(node.args.vararg)
            self.assertIsNone(node.args.kwarg)
            self.assertEqual(node.args.kwonlyargs + node.args.posonlyargs, [])
            self.assertIsNotNone(ast.get_docstring(node) or node.name == "__init__" or None)
        for _, node in nodes(ast.ClassDef):
            for part in node.body[1:]:
                self.assertIsInstance(part, ast.FunctionDef)

    def test_lazy_walks_are_walked_at_once(self):
        for name, tree in trees().items():
            allowed = []
            for node in ast.walk(tree):
                if isinstance(node, (ast.For, ast.comprehension)):
                    allowed.append(node.iter)
                if isinstance(node, ast.Call) and called_name(node) in WALKERS:
                    allowed += node.args[:1]
            for node in ast.walk(tree):
                if isinstance(node, ast.Call) and called_name(node) in LAZY:
                    self.assertIn(node, allowed, f"{name}: {node.lineno}")

    def test_keywords(self):
        for _, node in nodes(ast.Call):
            self.assertEqual(node.keywords, [])


class Names(unittest.TestCase):
    def test_plain(self):
        for name, node in nodes((ast.Name, ast.arg, ast.Attribute)):
            text = {ast.Name: "id", ast.arg: "arg", ast.Attribute: "attr"}[type(node)]
            self.assertRegex(getattr(node, text), r"^[A-Za-z]\w*$", f"{name}: {node.lineno}")

    def test_pythons_own_names(self):
        for name, tree in trees().items():
            bound = {node.id for node in ast.walk(tree) if isinstance(node, ast.Name) and
                     isinstance(node.ctx, ast.Store)} | {node.arg for node in ast.walk(tree)
                                                         if isinstance(node, ast.arg)}
            self.assertEqual([one for one in bound if hasattr(builtins, one)], [], name)
            for node in ast.walk(tree):
                if isinstance(node, ast.Name) and node.id not in bound and node.id not in top_names(tree):
                    self.assertIn(node.id, BUILTINS, f"{name}: {node.lineno}")

    def test_locals_are_not_called_like_classes_or_imports(self):
        for name, tree in trees().items():
            taken = [alias for node in tree.body if isinstance(node, ast.ImportFrom) for alias in node.names]
            taken = {alias.name for alias in taken} | {n.name for n in tree.body if isinstance(n, ast.ClassDef)}
            for function in ast.walk(tree):
                if isinstance(function, ast.FunctionDef):
                    found = {n.id for n in ast.walk(function) if isinstance(n, ast.Name) and
                             isinstance(n.ctx, ast.Store)} | {a.arg for a in function.args.args}
                    self.assertEqual(found & taken, set(), name)

    def test_methods_and_values(self):
        self.assertEqual(own_methods() & own_values(), set())
        pythons = {attribute for kind in OWN_KINDS for attribute in dir(kind)}
        self.assertEqual((own_methods() - {"__init__"}) & pythons, set())
        self.assertEqual(own_values() & pythons, set())
        for name, node in nodes(ast.Call):
            if isinstance(node.func, ast.Attribute):
                self.assertIn(node.func.attr, METHODS | own_methods(), f"{name}: {node.lineno}")


if __name__ == "__main__":
    unittest.main()
