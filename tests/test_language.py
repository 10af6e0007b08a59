"""The package keeps to the part of Python that it's written in: the rules L1 to L28, as far as a walk can see them."""

import ast
import builtins
import pathlib
import re
import unittest

ROOT = pathlib.Path(__file__).resolve().parent.parent / "glassworks"

OWN_OF_PYTHON = set("""len range enumerate zip min max sum abs sorted reversed int str bool list tuple dict set
frozenset isinstance ord repr any all divmod Exception ValueError TypeError KeyError IndexError LookupError
ZeroDivisionError ArithmeticError OverflowError RuntimeError NotImplementedError AttributeError
StopIteration""".split())
METHODS = set("""append clear copy count endswith extend find get index insert isalnum isalpha isdigit islower isspace
isupper items join keys ljust lower lstrip partition pop remove replace reverse rfind rjust rpartition rsplit rstrip
setdefault split splitlines startswith strip update upper values zfill bit_length""".split())
CHANGING = set("append clear extend insert pop remove reverse setdefault update".split())
WALKED = set("zip enumerate reversed range".split())
DUNDERS = {"__init__", "__eq__", "__repr__", "__str__", "__len__"}
FILE_NAMES_OUT = {"test", "tests", "testing", "site", "conftest", "sitecustomize", "usercustomize"}
NAMES_OUT = set("""register mro elements open input version_info with_traceback add_note attrgetter breakpoint builtins
compile copyright credits delattr dir eval exec exit gc getattr globals hasattr help id importlib license locals
methodcaller os quit setattr super type vars sys format format_map chr print""".split())
WORDS_OUT = set("""type typing typing_extensions enum Enum IntEnum StrEnum Flag IntFlag Generic Protocol ABC ABCMeta
namedtuple NamedTuple TypedDict TYPE_CHECKING abstractmethod""".split())
STATEMENTS = (ast.Assign, ast.AugAssign, ast.If, ast.While, ast.For, ast.Return, ast.Break, ast.Continue, ast.Pass,
              ast.Raise, ast.Try, ast.Expr, ast.FunctionDef)
EXPRESSIONS = (ast.BinOp, ast.UnaryOp, ast.BoolOp, ast.Compare, ast.IfExp, ast.Call, ast.Attribute, ast.Subscript,
               ast.Slice, ast.Name, ast.Constant, ast.List, ast.Tuple, ast.Dict, ast.ListComp, ast.JoinedStr,
               ast.FormattedValue, ast.Lambda, ast.Set)
OPERATORS_OUT = (ast.Div, ast.MatMult, ast.Pow)


def files():
    return sorted(path for path in ROOT.rglob("*") if "__pycache__" not in path.parts)


def trees():
    return [(path, ast.parse(path.read_text("ascii"))) for path in files()]


def module_name(path):
    return "glassworks" if path.stem == "__init__" else f"glassworks.{path.stem}"


def names_at_top(tree):
    names = []
    for node in tree.body:
        if isinstance(node, (ast.FunctionDef, ast.ClassDef)):
            names.append(node.name)
        elif isinstance(node, ast.ImportFrom):
            names += [alias.asname or alias.name for alias in node.names]
        elif isinstance(node, ast.Assign):
            names.append(node.targets[0].id)
    return names


def is_docstring(tree, node):
    return tree.body[0] is node and ast.get_docstring(tree) is not None


def is_plain(node, known):
    if isinstance(node, (ast.List, ast.Tuple)):
        return all(is_plain(part, known) for part in node.elts)
    if isinstance(node, ast.Dict):
        return all(is_plain(part, known) for part in node.keys + node.values)
    if isinstance(node, ast.UnaryOp) and isinstance(node.op, ast.USub):
        node = node.operand
    if isinstance(node, ast.Name):
        return node.id in known
    return isinstance(node, ast.Constant) and (node.value is None or type(node.value) in (int, str, bool))


def local_names(function):
    names = [argument.arg for argument in function.args.args]
    for node in ast.walk(function):
        if isinstance(node, ast.Name) and isinstance(node.ctx, ast.Store):
            names.append(node.id)
        if isinstance(node, ast.ExceptHandler) and node.name:
            names.append(node.name)
    return names


def methods_and_values():
    methods, values = set(), set()
    for path, tree in trees():
        for owner in [node for node in tree.body if isinstance(node, ast.ClassDef)]:
            methods |= {node.name for node in owner.body if isinstance(node, ast.FunctionDef)}
        for node in ast.walk(tree):
            if isinstance(node, ast.Attribute) and isinstance(node.ctx, ast.Store):
                values.add(node.attr)
    return methods, values


class Language(unittest.TestCase):
    def each_node(self, kinds):
        for path, tree in trees():
            for node in ast.walk(tree):
                if isinstance(node, kinds):
                    yield f"{path.name}:{getattr(node, 'lineno', 0)}", node

    def test_files(self):
        for path in files():
            self.assertTrue(path.is_file() and path.parent == ROOT and path.suffix == ".py", path)
            self.assertRegex(path.stem, r"^(__init__|[a-z][a-z0-9_]*)$")
            self.assertNotIn(path.stem, FILE_NAMES_OUT | WORDS_OUT | set(dir(builtins)))
            self.assertFalse(path.stem.startswith("test_"), path)
        self.assertTrue((ROOT / "__init__.py").is_file())

    def test_signs_lines_and_words(self):
        for path in files():
            text = path.read_bytes().decode("ascii")
            self.assertEqual([sign for sign in text if sign != "\n" and not " " <= sign <= "~"], [], path)
            lines = text.split("\n")
            self.assertLessEqual(len(lines), 400, path)
            self.assertEqual([line for line in lines if len(line) > 120], [], path)
            self.assertEqual(set(re.findall(r"\w+", text)) & WORDS_OUT, set(), path)
            self.assertIsNone(re.search("dataclass|overload|contextmanager", text), path)

    def test_imports(self):
        tops = {module_name(path): tree for path, tree in trees()}
        draws = {}
        for path, tree in trees():
            inner = [node for node in ast.walk(tree) if isinstance(node, (ast.Import, ast.ImportFrom))]
            self.assertTrue(all(isinstance(node, ast.ImportFrom) and node in tree.body for node in inner), path)
            draws[module_name(path)] = {node.module for node in inner}
            for node in inner:
                self.assertEqual(node.level, 0)
                made = [top for top in tops[node.module].body if not isinstance(top, ast.ImportFrom)]
                made = set(names_at_top(ast.Module(made, [])))
                self.assertLessEqual({alias.name for alias in node.names}, made, path)
        while draws:
            free = [name for name in draws if not draws[name] & set(draws)]
            self.assertTrue(free, f"these draw from one another: {sorted(draws)}")
            for name in free:
                del draws[name]

    def test_the_top_of_a_module(self):
        for path, tree in trees():
            known = set()
            for node in tree.body:
                where = f"{path.name}:{node.lineno}"
                if isinstance(node, ast.Assign):
                    self.assertTrue(is_plain(node.value, known), where)
                    self.assertIsInstance(node.targets[0], ast.Name, where)
                elif isinstance(node, ast.FunctionDef):
                    known.add(node.name)
                else:
                    self.assertTrue(isinstance(node, (ast.ImportFrom, ast.ClassDef)) or is_docstring(tree, node), where)
            names = names_at_top(tree)
            self.assertEqual(len(names), len(set(names)), path)
            self.assertEqual(set(names) & set(dir(builtins)), set(), path)

    def test_functions(self):
        for where, node in self.each_node(ast.FunctionDef):
            given = node.args
            self.assertFalse(given.vararg or given.kwarg or given.kwonlyargs or given.posonlyargs, where)
            self.assertTrue(all(is_plain(value, set()) for value in given.defaults), where)
            self.assertEqual(node.decorator_list, [], where)
            self.assertLessEqual(node.end_lineno - node.lineno + 1, 40, where)
            self.assertIsNone(node.returns, where)
            self.assertTrue(all(argument.annotation is None for argument in given.args), where)

    def test_classes(self):
        for where, node in self.each_node(ast.ClassDef):
            self.assertTrue(all(isinstance(part, ast.FunctionDef) for part in node.body), where)
            self.assertFalse(node.decorator_list or node.keywords or len(node.bases) > 1, where)
            names = [part.name for part in node.body]
            self.assertEqual(len(names), len(set(names)), where)
            self.assertLessEqual({name for name in names if name.startswith("_")}, DUNDERS, where)

    def test_statements(self):
        for path, tree in trees():
            for function in [node for node in ast.walk(tree) if isinstance(node, ast.FunctionDef)]:
                for node in ast.walk(function):
                    if isinstance(node, ast.stmt):
                        where = f"{path.name}:{node.lineno}"
                        self.assertIsInstance(node, STATEMENTS, where)
                        if isinstance(node, ast.Expr):
                            self.assertIsInstance(node.value, ast.Call, where)
                        if isinstance(node, ast.Assign):
                            self.assertEqual(len(node.targets), 1, where)
                            self.assertIsInstance(node.targets[0], (ast.Name, ast.Attribute, ast.Subscript), where)
                        if isinstance(node, (ast.For, ast.While)):
                            self.assertEqual(node.orelse, [], where)
                        if isinstance(node, ast.Try):
                            self.assertEqual(node.finalbody, [], where)

    def test_expressions(self):
        for where, node in self.each_node(ast.expr):
            self.assertIsInstance(node, EXPRESSIONS, where)
            if isinstance(node, ast.Constant):
                self.assertTrue(node.value is None or type(node.value) in (int, str, bool), where)
                self.assertNotIn("%", node.value if isinstance(node.value, str) else "", where)
            if isinstance(node, ast.ListComp):
                self.assertTrue(len(node.generators) == 1 and len(node.generators[0].ifs) <= 1, where)
            if isinstance(node, ast.Compare) and any(isinstance(op, (ast.Is, ast.IsNot)) for op in node.ops):
                self.assertTrue(all(isinstance(part, ast.Constant) for part in node.comparators), where)
        for where, node in self.each_node((ast.BinOp, ast.AugAssign)):
            self.assertNotIsInstance(node.op, OPERATORS_OUT, where)

    def test_names(self):
        for where, node in self.each_node((ast.Name, ast.Attribute, ast.arg)):
            name = {ast.Name: "id", ast.Attribute: "attr", ast.arg: "arg"}[type(node)]
            name = getattr(node, name)
            self.assertRegex(name, r"^(__init__|[A-Za-z][A-Za-z0-9_]*)$", where)
            self.assertNotIn(name, NAMES_OUT, where)
            if isinstance(node, ast.Name) and name in dir(builtins):
                self.assertIn(name, OWN_OF_PYTHON, where)

    def test_no_local_is_called_like_something_else(self):
        for path, tree in trees():
            taken = set(dir(builtins)) | {node.name for node in tree.body if isinstance(node, ast.ClassDef)}
            for node in tree.body:
                if isinstance(node, ast.ImportFrom):
                    taken |= {alias.name for alias in node.names}
            for function in [node for node in ast.walk(tree) if isinstance(node, ast.FunctionDef)]:
                self.assertEqual(set(local_names(function)) & taken, set(), f"{path.name}:{function.lineno}")

    def test_own_methods_and_values(self):
        methods, values = methods_and_values()
        self.assertEqual(methods & values, set())
        of_python = set()
        for value in ("", 0, [], {}, set(), b"", ()):
            of_python |= set(dir(value))
        self.assertEqual((methods - DUNDERS) & of_python, set())
        self.assertEqual(values & of_python, set())
        for where, node in self.each_node(ast.Call):
            if isinstance(node.func, ast.Attribute):
                self.assertIn(node.func.attr, METHODS | methods, where)
            self.assertEqual(node.keywords, [], where)

    def test_walked_at_once(self):
        for path, tree in trees():
            at_once = {id(node.iter) for node in ast.walk(tree) if isinstance(node, (ast.For, ast.comprehension))}
            for node in ast.walk(tree):
                if isinstance(node, ast.Call) and isinstance(node.func, ast.Name) and node.func.id in WALKED:
                    self.assertIn(id(node), at_once, f"{path.name}:{node.lineno}")

    def test_what_is_walked_is_not_changed(self):
        for where, loop in self.each_node(ast.For):
            over = loop.iter
            if isinstance(over, ast.Call):
                over = over.args[0]
            over = ast.unparse(over)
            for node in ast.walk(ast.Module(loop.body, [])):
                if isinstance(node, ast.Call) and isinstance(node.func, ast.Attribute) and node.func.attr in CHANGING:
                    self.assertNotEqual(ast.unparse(node.func.value), over, where)
                if isinstance(node, ast.Subscript) and isinstance(node.ctx, ast.Store):
                    self.assertNotEqual(ast.unparse(node.value), over, where)


if __name__ == "__main__":
    unittest.main()
