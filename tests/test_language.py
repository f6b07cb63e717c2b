"""The package keeps to its small part of Python: what of the rules L1 to L28 can be seen in the source."""

import ast
import builtins
import pathlib
import re
import unittest

PACKAGE = pathlib.Path(__file__).resolve().parent.parent / "signrow"

STATEMENTS = (ast.Assign, ast.AugAssign, ast.If, ast.While, ast.For, ast.Return, ast.Break, ast.Continue, ast.Pass,
              ast.Raise, ast.Try, ast.ExceptHandler, ast.Expr, ast.FunctionDef, ast.ClassDef, ast.ImportFrom)
EXPRESSIONS = (ast.Constant, ast.List, ast.Tuple, ast.Dict, ast.BinOp, ast.UnaryOp, ast.BoolOp, ast.Compare, ast.IfExp,
               ast.Call, ast.Attribute, ast.Subscript, ast.Slice, ast.ListComp, ast.Name)
PARTS = (ast.Module, ast.arguments, ast.arg, ast.alias, ast.comprehension, ast.operator, ast.unaryop, ast.boolop,
         ast.cmpop, ast.expr_context)
OWN = set("""len range enumerate zip min max sum abs sorted reversed int str bool list tuple dict isinstance ord repr
    any all divmod""".split())
ERRORS = set("Exception ValueError KeyError ZeroDivisionError".split())
METHODS = set("""append clear copy count endswith extend find get index insert isalnum isalpha isdigit islower isspace
    isupper items join keys ljust lower lstrip partition pop remove replace reverse rfind rjust rpartition rsplit rstrip
    setdefault split splitlines startswith strip update upper values zfill bit_length""".split())
UNUSED = set("""register mro elements open input version_info with_traceback add_note format format_map attrgetter
    breakpoint builtins compile copyright credits delattr dir eval exec exit gc getattr globals hasattr help id
    importlib license locals methodcaller os quit setattr super type vars sys""".split())
WORDS = """type typing typing_extensions enum Enum IntEnum StrEnum Flag IntFlag Generic Protocol ABC ABCMeta namedtuple
    NamedTuple TypedDict TYPE_CHECKING abstractmethod""".split()
PLAIN = re.compile(r"[A-Za-z][A-Za-z0-9_]*\Z")
SPECIAL = {"__init__", "__eq__", "__repr__", "__str__", "__len__"}
PYTHONS_OWN = {name for kind in (str, int, list, dict, set, bytes, tuple) for name in dir(kind)}


def sources():
    return {path: path.read_text(encoding="utf-8") for path in sorted(PACKAGE.rglob("*.py"))}


def nodes(kind):
    for path, text in sources().items():
        for node in ast.walk(ast.parse(text)):
            if isinstance(node, kind):
                yield f"{path.name}:{getattr(node, 'lineno', 0)}", node


class Source(unittest.TestCase):
    def test_files(self):
        self.assertTrue(PACKAGE.is_dir())
        for path in PACKAGE.rglob("*"):
            if "__pycache__" not in path.parts:
                self.assertEqual(path.suffix, ".py", path)
                self.assertRegex(path.stem, r"\A([a-z][a-z0-9_]*|__init__)\Z")
                self.assertNotIn(path.stem, set(dir(builtins)) | set(WORDS) | {"site", "test", "tests", "testing"})

    def test_size_and_signs(self):
        for path, text in sources().items():
            rows = text.split("\n")
            self.assertLessEqual(len(rows), 400, path)
            for number, row in enumerate(rows, start=1):
                where = f"{path.name}:{number}"
                self.assertLessEqual(len(row), 120, where)
                self.assertRegex(row, r"\A[ -~]*\Z", where)
                for word in WORDS:
                    self.assertIsNone(re.search(rf"\b{word}\b", row), where)
                self.assertIsNone(re.search("dataclass|overload|contextmanager", row), where)

    def test_functions_are_short_and_plain(self):
        for where, node in nodes(ast.FunctionDef):
            self.assertLessEqual(node.end_lineno - node.lineno + 1, 40, where)
            given = node.args
            self.assertFalse(given.vararg or given.kwarg or given.kwonlyargs or given.posonlyargs, where)
            self.assertFalse(node.decorator_list or node.returns, where)
            self.assertTrue(PLAIN.match(node.name) or node.name in SPECIAL, where)

    def test_only_the_forms_that_are_allowed(self):
        for where, node in nodes(ast.AST):
            self.assertIsInstance(node, STATEMENTS + EXPRESSIONS + PARTS, where)
            self.assertNotIsInstance(node, (ast.Div, ast.MatMult), where)
            if isinstance(node, (ast.For, ast.While)):
                self.assertEqual(node.orelse, [], where)
            if isinstance(node, ast.Assign):
                self.assertEqual(len(node.targets), 1, where)
                self.assertNotIsInstance(node.targets[0], (ast.Tuple, ast.List), where)
            if isinstance(node, ast.Try):
                self.assertEqual(node.finalbody, [], where)
            if isinstance(node, ast.ListComp):
                self.assertEqual(len(node.generators), 1, where)
                self.assertLessEqual(len(node.generators[0].ifs), 1, where)
            if isinstance(node, ast.Constant):
                self.assertIsInstance(node.value, (int, str, type(None)), where)
            if isinstance(node, ast.Compare) and isinstance(node.ops[0], (ast.Is, ast.IsNot)):
                self.assertIsInstance(node.comparators[0], ast.Constant, where)

    def test_the_top_of_a_module(self):
        for path, text in sources().items():
            body = ast.parse(text).body
            self.assertIsInstance(body[0].value, ast.Constant, path)
            bound = []
            for node in body[1:]:
                self.assertIsInstance(node, (ast.ImportFrom, ast.FunctionDef, ast.ClassDef, ast.Assign), path)
                if isinstance(node, ast.ImportFrom):
                    self.assertTrue(node.module.startswith("signrow."), path)
                    self.assertEqual(node.level, 0, path)
                    bound.extend(alias.name for alias in node.names)
                elif isinstance(node, ast.Assign):
                    ast.literal_eval(node.value)
                    bound.append(node.targets[0].id)
                else:
                    bound.append(node.name)
            self.assertEqual(len(bound), len(set(bound)), path)

    def test_names_are_imported_from_where_they_stand(self):
        drawn = {}
        for path, text in sources().items():
            drawn[path.stem] = set()
            for node in ast.parse(text).body:
                if isinstance(node, ast.ImportFrom):
                    other = PACKAGE / (node.module.split(".")[1] + ".py")
                    drawn[path.stem].add(other.stem)
                    for alias in node.names:
                        self.assertRegex(other.read_text(), rf"(?m)^((def|class) {alias.name}\b|{alias.name} = )")
        while drawn:
            free = [name for name, others in drawn.items() if not others & set(drawn)]
            self.assertTrue(free, f"files that draw from one another: {drawn}")
            drawn = {name: others for name, others in drawn.items() if name not in free}


class Names(unittest.TestCase):
    def test_names_that_are_bound(self):
        for where, node in nodes((ast.Name, ast.arg)):
            if isinstance(node, ast.arg) or isinstance(node.ctx, ast.Store):
                name = node.arg if isinstance(node, ast.arg) else node.id
                self.assertTrue(PLAIN.match(name), where)
                self.assertNotIn(name, set(dir(builtins)) | UNUSED, where)

    def test_pythons_own_names(self):
        for where, node in nodes(ast.Name):
            self.assertNotIn(node.id, UNUSED, where)
            if node.id in dir(builtins):
                self.assertIn(node.id, OWN | ERRORS, where)

    def test_no_local_is_called_like_a_class_or_an_import(self):
        for path, text in sources().items():
            tree = ast.parse(text)
            taken = {node.name for node in tree.body if isinstance(node, ast.ClassDef)}
            taken |= {alias.name for node in tree.body if isinstance(node, ast.ImportFrom) for alias in node.names}
            for node in ast.walk(tree):
                if isinstance(node, ast.arg):
                    self.assertNotIn(node.arg, taken, path)
                if isinstance(node, ast.Name) and isinstance(node.ctx, ast.Store):
                    self.assertNotIn(node.id, taken, path)

    def test_methods_and_values(self):
        own = {item.name for where, node in nodes(ast.ClassDef) for item in node.body
               if isinstance(item, ast.FunctionDef)}
        values = {node.attr for where, node in nodes(ast.Attribute) if isinstance(node.ctx, ast.Store)}
        self.assertEqual(own & values, set())
        self.assertEqual((own - SPECIAL) & PYTHONS_OWN, set())
        self.assertEqual(values & PYTHONS_OWN, set())
        self.assertEqual((own | values) & UNUSED, set())
        for where, node in nodes(ast.Attribute):
            self.assertIn(node.attr, own | values | METHODS, where)

    def test_methods_are_called_where_they_stand(self):
        called = {id(node.func) for where, node in self.kept(ast.Call)}
        own = {item.name for where, node in nodes(ast.ClassDef) for item in node.body
               if isinstance(item, ast.FunctionDef)}
        for where, node in self.kept(ast.Attribute):
            if node.attr in own | METHODS:
                self.assertIn(id(node), called, where)

    def kept(self, kind):
        if not hasattr(self, "all_nodes"):
            self.all_nodes = list(nodes(ast.AST))
        return [(where, node) for where, node in self.all_nodes if isinstance(node, kind)]

    def test_what_is_walked_at_once(self):
        walked = set()
        for where, node in self.kept((ast.For, ast.comprehension, ast.Call)):
            if not isinstance(node, ast.Call):
                walked.add(id(node.iter))
            elif isinstance(node.func, ast.Name) and node.func.id in OWN - {"len", "range"} and node.args:
                walked.add(id(node.args[0]))
        for where, node in self.kept(ast.Call):
            name = node.func.id if isinstance(node.func, ast.Name) else node.func.attr
            if name in ("zip", "enumerate", "reversed", "range", "items", "keys", "values"):
                self.assertIn(id(node), walked, where)

    def test_classes(self):
        for where, node in nodes(ast.ClassDef):
            self.assertLessEqual(len(node.bases), 1, where)
            self.assertEqual((node.keywords, node.decorator_list), ([], []), where)
            for item in node.body:
                self.assertIsInstance(item, (ast.FunctionDef, ast.Pass), where)

    def test_errors(self):
        own = {node.name for where, node in nodes(ast.ClassDef) if node.bases}
        for where, node in nodes(ast.ExceptHandler):
            self.assertIn(node.type.id, own, where)
        for where, node in nodes(ast.Raise):
            self.assertIn(node.exc.func.id, own, where)
