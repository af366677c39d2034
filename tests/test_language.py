"""The package keeps to the small part of Python that it is written in, as far as a test can see it.

The rules' numbers (L1 to L28) stand at the tests.
"""

import ast
import builtins
import pathlib
import re
import unittest

PACKAGE = pathlib.Path(__file__).resolve().parent.parent / "requestclasses"
FILES = sorted(PACKAGE.rglob("*.py"))

OWN_NAMES = set(
    "len range enumerate zip min max sum abs sorted reversed int str bool list tuple dict set frozenset isinstance "
    "ord repr any all divmod True False None Exception ValueError TypeError KeyError IndexError LookupError "
    "ZeroDivisionError ArithmeticError OverflowError RuntimeError NotImplementedError AttributeError "
    "StopIteration".split())
METHODS = set(
    "append clear copy count endswith extend find get index insert isalnum isalpha isdigit islower isspace isupper "
    "items join keys ljust lower lstrip partition pop remove replace reverse rfind rjust rpartition rsplit rstrip "
    "setdefault split splitlines startswith strip update upper values zfill bit_length".split())
UNDERSCORED = {"__init__", "__eq__", "__repr__", "__str__", "__len__"}
WORDS = set(
    "type typing typing_extensions enum Enum IntEnum StrEnum Flag IntFlag Generic Protocol ABC ABCMeta namedtuple "
    "NamedTuple TypedDict TYPE_CHECKING abstractmethod".split())
UNUSED_ANYWHERE = set("register mro elements open input version_info with_traceback add_note".split())
UNUSED_NAMES = set(
    "attrgetter breakpoint builtins compile copyright credits delattr dir eval exec exit gc getattr globals hasattr "
    "help id importlib license locals methodcaller os quit setattr super type vars sys __name__ chr".split())
VALUE_KINDS = (str, int, float, complex, bytes, list, tuple, dict, set, frozenset)
STATEMENTS = (
    ast.Assign, ast.AugAssign, ast.If, ast.While, ast.For, ast.Return, ast.Break, ast.Continue, ast.Pass, ast.Raise,
    ast.Try, ast.Expr, ast.FunctionDef, ast.ClassDef, ast.ImportFrom)
EXPRESSIONS = (
    ast.Constant, ast.List, ast.Tuple, ast.Dict, ast.Set, ast.BinOp, ast.UnaryOp, ast.BoolOp, ast.Compare, ast.IfExp,
    ast.Call, ast.Attribute, ast.Subscript, ast.Slice, ast.ListComp, ast.JoinedStr, ast.FormattedValue, ast.Name,
    ast.Lambda)
WALKED_AT_ONCE = {"zip", "enumerate", "reversed", "range"}
KEYWORDS = {
    "sorted": {"key", "reverse"}, "min": {"key", "default"}, "max": {"key", "default"}, "sum": {"start"},
    "enumerate": {"start"}, "zip": {"strict"}}
CHANGES = {"append", "clear", "extend", "insert", "pop", "remove", "reverse", "setdefault", "update"}
WALKERS = {"list", "tuple", "dict", "sorted", "sum", "any", "all", "enumerate", "zip", "min", "max"}


def tree_of(file):
    return ast.parse(file.read_text("utf-8"), str(file), feature_version=(3, 11))


def module_of(file):
    parts = file.relative_to(PACKAGE.parent).with_suffix("").parts
    return ".".join(parts[:-1] if parts[-1] == "__init__" else parts)


def bound_in(tree):
    """Parameters and locals, with the names that comprehensions and handlers bind."""
    for node in ast.walk(tree):
        if isinstance(node, ast.arg):
            yield node.arg
        elif isinstance(node, ast.ExceptHandler) and node.name:
            yield node.name
        elif isinstance(node, ast.Name) and isinstance(node.ctx, ast.Store):
            yield node.id


def is_plain(node, functions):
    """Whether a value at a file's top is a plain one."""
    if isinstance(node, ast.Constant):
        return node.value is None or isinstance(node.value, (int, str))
    if isinstance(node, ast.UnaryOp):
        return isinstance(node.op, ast.USub) and is_plain(node.operand, functions)
    if isinstance(node, (ast.List, ast.Tuple)):
        return all(is_plain(part, functions) for part in node.elts)
    if isinstance(node, ast.Dict):
        return all(is_plain(part, functions) for part in node.keys + node.values)
    return isinstance(node, ast.Name) and node.id in functions


class Language(unittest.TestCase):
    def each_node(self, kinds):
        for file in FILES:
            for node in ast.walk(tree_of(file)):
                if isinstance(node, kinds):
                    yield node, "%s line %s" % (file.name, getattr(node, "lineno", "?"))

    def test_files(self):
        """L1, L14: .py files with plain names alone, and an __init__.py."""
        self.assertIn(PACKAGE / "__init__.py", FILES)
        for path in PACKAGE.rglob("*"):
            if "__pycache__" not in path.parts and not path.is_dir():
                self.assertRegex(path.name, r"\A(__init__|__main__|[a-z][a-z0-9_]*)\.py\Z")
                self.assertNotIn(path.stem, set(dir(builtins)) | WORDS)
                self.assertNotRegex(path.stem, r"\A(tests?|testing|test_.*|site|conftest|.*customize)\Z")

    def test_lengths(self):
        """L10: functions of at most 40 lines, files of at most 400, lines of at most 120 signs."""
        for file in FILES:
            rows = file.read_text("utf-8").split("\n")
            self.assertLessEqual(len(rows) - 1, 400, file.name)
            for place, row in enumerate(rows, start=1):
                self.assertLessEqual(len(row), 120, "%s line %d" % (file.name, place))
        for node, where in self.each_node(ast.FunctionDef):
            self.assertLessEqual(node.end_lineno - node.lineno + 1, 40, where)

    def test_signs(self):
        """L14, L10: from the blank to ~, or a line feed; so no tab either."""
        for file in FILES:
            others = [byte for byte in file.read_bytes() if byte != 10 and not 32 <= byte <= 126]
            self.assertEqual(others, [], file.name)

    def test_words_that_stand_nowhere(self):
        """L17."""
        for file in FILES:
            words = file.read_text("utf-8")
            self.assertEqual(WORDS & set(re.findall(r"\w+", words)), set(), file.name)
            self.assertNotRegex(words, "dataclass|overload|contextmanager")

    def test_statements_and_expressions(self):
        """L6, L7, L20."""
        for node, where in self.each_node(ast.stmt):
            self.assertIsInstance(node, STATEMENTS, where)
            if isinstance(node, ast.Assign):
                self.assertEqual(len(node.targets), 1, where)
            if isinstance(node, (ast.For, ast.While)):
                self.assertEqual(node.orelse, [], where)
            if isinstance(node, ast.Try):
                self.assertEqual(node.finalbody, [], where)
                self.assertTrue(all(handler.type is not None for handler in node.handlers), where)
            if isinstance(node, ast.Expr):
                self.assertIsInstance(node.value, (ast.Call, ast.Constant), where)
        for node, where in self.each_node(ast.expr):
            self.assertIsInstance(node, EXPRESSIONS, where)
            if isinstance(node, ast.ListComp):
                self.assertEqual(len(node.generators), 1, where)
                self.assertLessEqual(len(node.generators[0].ifs), 1, where)
            if isinstance(node, ast.Compare) and any(isinstance(op, (ast.Is, ast.IsNot)) for op in node.ops):
                self.assertIn(getattr(node.comparators[0], "value", 0), (None, True, False), where)
        for node, where in self.each_node((ast.Div, ast.MatMult, ast.Pow)):
            self.fail(where)

    def test_constants(self):
        """L7, L27: no float, no bytes, no percent sign and no odd escape within a text."""
        for node, where in self.each_node(ast.Constant):
            self.assertIn(type(node.value), (int, str, bool, type(None)), where)
            if isinstance(node.value, str):
                self.assertNotIn("%", node.value, where)
        for file in FILES:
            self.assertEqual(re.findall(r"\\[^nt\\'\"]", file.read_text("utf-8")), [], file.name)

    def test_top_of_files(self):
        """L3, L15: a docstring, imports, functions, classes and plain values, each name once."""
        for file in FILES:
            names, functions = [], set()
            for place, node in enumerate(tree_of(file).body):
                if isinstance(node, ast.Assign):
                    self.assertIsInstance(node.targets[0], ast.Name)
                    self.assertTrue(is_plain(node.value, functions), node.targets[0].id)
                    parts = getattr(node.value, "elts", []) + getattr(node.value, "values", [])
                    self.assertFalse(any(isinstance(part, (ast.List, ast.Dict)) for part in parts))
                    names.append(node.targets[0].id)
                elif isinstance(node, ast.ImportFrom):
                    names.extend(alias.name for alias in node.names)
                elif isinstance(node, (ast.FunctionDef, ast.ClassDef)):
                    names.append(node.name)
                    functions.add(node.name)
                else:
                    self.assertEqual((place, type(node)), (0, ast.Expr), file.name)
            self.assertEqual(len(names), len(set(names)), file.name)

    def test_imports(self):
        """L2, L16: from the very file of the package that defines the name, and never round."""
        defined, drawn = {}, {}
        for file in FILES:
            tree = tree_of(file)
            defined[module_of(file)] = {node.name for node in tree.body if hasattr(node, "name")} | {
                node.targets[0].id for node in tree.body if isinstance(node, ast.Assign)}
            drawn[module_of(file)] = [node for node in ast.walk(tree) if isinstance(node, ast.ImportFrom)]
        for module, nodes in drawn.items():
            for node in nodes:
                self.assertEqual((node.level, node.col_offset), (0, 0), module)
                for alias in node.names:
                    self.assertIsNone(alias.asname, module)
                    self.assertIn(alias.name, defined.get(node.module, ()), module)
        self.assertEqual(drawn[PACKAGE.name], [])
        left = {module: {node.module for node in nodes} for module, nodes in drawn.items()}
        while left:
            free = [module for module in left if not left[module] & set(left)]
            self.assertNotEqual(free, [], "files draw from one another: %s" % sorted(left))
            for module in free:
                left.pop(module)

    def test_functions_and_classes(self):
        """L4, L5, L18, L21, L28."""
        methods, values = set(), set()
        for node, where in self.each_node(ast.FunctionDef):
            self.assertEqual((node.decorator_list, node.returns), ([], None), where)
            arguments = node.args
            self.assertEqual((arguments.vararg, arguments.kwarg, arguments.kwonlyargs, arguments.posonlyargs),
                             (None, None, [], []), where)
            self.assertTrue(all(is_plain(default, ()) for default in arguments.defaults), where)
            self.assertTrue(all(argument.annotation is None for argument in arguments.args), where)
            if node.name == "__init__":
                self.assertFalse(any(isinstance(part, ast.Return) for part in ast.walk(node)), where)
        for node, where in self.each_node(ast.ClassDef):
            self.assertEqual((node.decorator_list, node.keywords, node.col_offset), ([], [], 0), where)
            self.assertLessEqual(len(node.bases), 1, where)
            names = []
            for part in node.body:
                self.assertTrue(isinstance(part, ast.FunctionDef) or isinstance(part.value, ast.Constant), where)
                names.extend([part.name] if isinstance(part, ast.FunctionDef) else [])
            self.assertEqual(len(names), len(set(names)), where)
            methods.update(names)
        for node, where in self.each_node(ast.Attribute):
            if isinstance(node.ctx, ast.Store):
                self.assertIsInstance(node.value, ast.Name, where)
                values.add(node.attr)
        self.assertEqual(methods & values, set())
        for name in (methods | values) - UNDERSCORED:
            taken = [kind for kind in VALUE_KINDS if hasattr(kind, name)]
            self.assertEqual(taken, [], "L26: " + name)

    def test_names(self):
        """L8, L12, L15, L17."""
        for file in FILES:
            tree = tree_of(file)
            bound = set(bound_in(tree))
            tops = {node.name for node in tree.body if isinstance(node, (ast.FunctionDef, ast.ClassDef))}
            brought = {alias.name for node in tree.body if isinstance(node, ast.ImportFrom) for alias in node.names}
            classes = {node.name for node in tree.body if isinstance(node, ast.ClassDef)}
            self.assertEqual(bound & (classes | brought | set(dir(builtins))), set(), file.name)
            read = {node.id for node in ast.walk(tree) if isinstance(node, ast.Name)}
            self.assertEqual(read - bound - tops - brought - OWN_NAMES, set(), file.name)
            attributes = {node.attr for node in ast.walk(tree) if isinstance(node, ast.Attribute)}
            every = read | bound | tops | brought | attributes
            self.assertEqual(every & UNUSED_ANYWHERE, set(), file.name)
            self.assertEqual((every - attributes) & UNUSED_NAMES, set(), file.name)
            for name in every - UNDERSCORED:
                self.assertRegex(name, r"\A[A-Za-z][A-Za-z0-9_]*\Z", file.name)

    def test_methods(self):
        """L25: of Python's own values the listed ones alone, called where they stand."""
        own = {node.name for node, where in self.each_node(ast.FunctionDef)}
        values = {node.attr for node, where in self.each_node(ast.Attribute) if isinstance(node.ctx, ast.Store)}
        called = set()
        for node, where in self.each_node(ast.Call):
            if isinstance(node.func, ast.Attribute):
                self.assertIn(node.func.attr, own | METHODS, where)
                called.add((node.func.attr, node.func.lineno, node.func.col_offset, where.split()[0]))
        for node, where in self.each_node(ast.Attribute):
            if (node.attr, node.lineno, node.col_offset, where.split()[0]) not in called:
                self.assertIn(node.attr, values, where)

    def test_walked_at_once(self):
        """L23, L24: what is walked is not kept, and a set is only counted, asked or sorted."""
        for file in FILES:
            tree = tree_of(file)
            allowed = set()
            for node in ast.walk(tree):
                if isinstance(node, (ast.For, ast.comprehension)):
                    allowed.add(node.iter)
                if isinstance(node, ast.Call) and isinstance(node.func, ast.Name) and node.func.id in WALKERS:
                    allowed.update(node.args)
            for node in ast.walk(tree):
                if isinstance(node, ast.Call) and isinstance(node.func, ast.Name) and node not in allowed:
                    self.assertNotIn(node.func.id, WALKED_AT_ONCE, "%s line %d" % (file.name, node.lineno))
        for file in FILES:
            tree = tree_of(file)
            in_len = {node.args[0] for node in ast.walk(tree) if isinstance(node, ast.Call) and node.args
                      and isinstance(node.func, ast.Name) and node.func.id in ("len", "sorted") and not node.keywords}
            for node in ast.walk(tree):
                if isinstance(node, ast.Call) and isinstance(node.func, ast.Name):
                    if node.func.id in ("set", "frozenset"):
                        self.assertIn(node, in_len, "%s line %d" % (file.name, node.lineno))

    def test_what_is_walked_is_not_changed(self):
        """L23: nothing is put to what a loop walks, or taken from it, within the loop."""
        for loop, where in self.each_node(ast.For):
            walked = {ast.dump(part) for part in ast.walk(loop.iter) if isinstance(part, (ast.Name, ast.Attribute))}
            for node in [part for row in loop.body for part in ast.walk(row)]:
                changed = None
                if isinstance(node, ast.Call) and isinstance(node.func, ast.Attribute) and node.func.attr in CHANGES:
                    changed = node.func.value
                if isinstance(node, ast.Subscript) and isinstance(node.ctx, ast.Store):
                    changed = node.value
                if changed is not None:
                    self.assertNotIn(ast.dump(changed), walked, where)

    def test_nothing_is_kept_at_the_top(self):
        """L15: a list or dict of a file's top is only read, by an index, a walk, "in" or len."""
        for file in FILES:
            tree = tree_of(file)
            kept = {node.targets[0].id for node in tree.body
                    if isinstance(node, ast.Assign) and isinstance(node.value, (ast.List, ast.Dict))}
            read = set()
            for node in ast.walk(tree):
                if isinstance(node, ast.Subscript) and isinstance(node.ctx, ast.Load):
                    read.add(node.value)
                elif isinstance(node, ast.Compare):
                    read.update(node.comparators)
                elif isinstance(node, (ast.For, ast.comprehension)):
                    read.add(node.iter)
                elif isinstance(node, ast.Call) and isinstance(node.func, ast.Name) and node.func.id == "len":
                    read.update(node.args)
            for node in ast.walk(tree):
                if isinstance(node, ast.Name) and isinstance(node.ctx, ast.Load) and node.id in kept:
                    self.assertIn(node, read, "%s line %d" % (file.name, node.lineno))

    def test_two_forms(self):
        """L13: no set is written out, and no two lambdas stand on one line."""
        for node, where in self.each_node(ast.Set):
            self.fail(where)
        places = [where for node, where in self.each_node(ast.Lambda)]
        self.assertEqual(len(places), len(set(places)))

    def test_errors(self):
        """L19: the program's own errors are taken, by name, and each is made where it is raised."""
        own = {node.name for node, where in self.each_node(ast.ClassDef) if node.bases}
        for node, where in self.each_node(ast.ClassDef):
            for base in node.bases:
                self.assertIn(base.id, own | {"Exception", "ValueError"}, where)
        for node, where in self.each_node(ast.ExceptHandler):
            self.assertIn(node.type.id, own, where)
        for node, where in self.each_node(ast.Raise):
            self.assertIsInstance(node.exc, ast.Call, where)
            self.assertIn(node.exc.func.id, own, where)

    def test_python_s_own_as_they_are_called(self):
        """L22: called, never kept, and with the listed keywords alone."""
        called = set()
        for node, where in self.each_node(ast.Call):
            name = node.func.id if isinstance(node.func, ast.Name) else ""
            if name in OWN_NAMES or isinstance(node.func, ast.Attribute):
                self.assertLessEqual({keyword.arg for keyword in node.keywords}, KEYWORDS.get(name, set()), where)
            called.add((name, where, getattr(node.func, "col_offset", 0)))
        for node, where in self.each_node(ast.Name):
            if node.id in OWN_NAMES - {"Exception", "ValueError"}:
                self.assertIn((node.id, where, node.col_offset), called, where)


if __name__ == "__main__":
    unittest.main()
