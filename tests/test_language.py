"""The package keeps ../shared/LANGUAGE.md: a stricter subset of it, in which each rule can be seen from the code."""

import ast
import builtins
import os
import re
import unittest

ROOT = os.path.dirname(os.path.dirname(os.path.abspath(__file__)))
PACKAGE = os.path.join(ROOT, "nearanswer")

BUILTINS = {"len", "range", "enumerate", "zip", "min", "max", "sum", "abs", "sorted", "int", "str", "bool", "list",
            "tuple", "dict", "set", "all", "any", "divmod", "type", "super", "ValueError", "TypeError", "isinstance"}
METHODS = {"append", "copy", "count", "endswith", "extend", "find", "get", "index", "insert", "items", "join", "keys",
           "lower", "pop", "replace", "rfind", "split", "startswith", "strip", "update", "upper", "values"}
MODIFYING = {"append", "clear", "extend", "insert", "pop", "remove", "reverse", "setdefault", "sort", "update", "add", "discard"}
BARRED_NODES = (ast.Lambda, ast.GeneratorExp, ast.YieldFrom, ast.With, ast.Global, ast.Nonlocal, ast.Delete,
                ast.AsyncFunctionDef, ast.Await, ast.AugAssign, ast.AnnAssign, ast.Starred, ast.NamedExpr,
                ast.Match, ast.Import, ast.Set, ast.SetComp, ast.Div, ast.Assert, ast.FormattedValue)
# What each kind of class may define besides plain methods; and functions that are called by a name of their caller's own.
OPERATORS = {"__add__", "__sub__", "__mul__", "__or__", "__rshift__", "__invert__", "__bool__", "__contains__", "__getitem__"}
LOOKING = OPERATORS | {"__eq__", "__len__", "__str__", "__repr__"}
DUNDERS = LOOKING | {"__init__", "__iter__", "__iadd__", "__call__"}
CALLED_LOCALS = {("spots.py", "rule"), ("lifebenches.py", "action"), ("lifevalues.py", "cls")}
BARRED_NAMES = {"register", "mro", "elements", "open", "input", "law", "version_info", "with_traceback", "add_note",
                "attrgetter", "breakpoint", "builtins", "compile", "copyright", "credits", "delattr", "dir", "eval",
                "exec", "exit", "gc", "globals", "help", "id", "importlib", "license", "locals", "methodcaller", "os",
                "quit", "vars", "sys"}
BARRED_WORDS = ("typing", "typing_extensions", "enum", "Enum", "IntEnum", "StrEnum", "Flag", "IntFlag", "Generic",
                "Protocol", "ABC", "ABCMeta", "namedtuple", "NamedTuple", "TypedDict", "abstractmethod", "dataclass",
                "overload", "contextmanager", "Meta", "_wall", "_WallAttr")
BUILTIN_NAMES = {name for name in dir(builtins)}
VALUE_METHODS = {name for value in ("", 0, [], {}, set(), b"") for name in dir(value)}


def files():
    return sorted(name for name in os.listdir(PACKAGE) if name != "__pycache__")


def text_of(name):
    with open(os.path.join(PACKAGE, name), encoding="utf-8") as file:
        return file.read()


def module_of(name):
    return ast.parse(text_of(name))


class LanguageTest(unittest.TestCase):

    def each(self):
        return [(name, module_of(name)) for name in files()]

    def test_files(self):
        self.assertLessEqual(len(files()), 100)
        for name in files():
            self.assertRegex(name, r"^[a-z0-9_]+\.py$")
            text = text_of(name)
            lines = text.split("\n")
            self.assertLessEqual(len(lines) - 1, 399, name)
            for at, line in enumerate(lines):
                self.assertLessEqual(len(line), 120, (name, at + 1))
                self.assertRegex(line, r"^[ -~]*$", (name, at + 1))
            for word in BARRED_WORDS:
                self.assertNotRegex(text, r"\b" + word + r"\b", (name, word))

    def test_module_level(self):
        for name, module in self.each():
            self.assertIsNotNone(ast.get_docstring(module))
            seen = []
            for node in module.body:
                if isinstance(node, ast.ImportFrom):
                    self.assertIsNotNone(node.module)
                    self.assertEqual(node.level, 0)
                    self.assertTrue(node.module.startswith("nearanswer."), node.module)
                    seen.extend(alias.name for alias in node.names)
                    self.assertTrue(all(alias.asname is None for alias in node.names))
                elif isinstance(node, (ast.FunctionDef, ast.ClassDef)):
                    seen.append(node.name)
                elif isinstance(node, ast.Assign):
                    self.assertEqual(len(node.targets), 1)
                    self.assertIsInstance(node.targets[0], ast.Name)
                    seen.append(node.targets[0].id)
                    for inner in ast.walk(node.value):
                        self.assertNotIsInstance(inner, (ast.Call, ast.List, ast.ListComp, ast.DictComp))
                        # A table of functions that are defined above it.
                        self.assertTrue(not isinstance(inner, ast.Name) or inner.id in [one.name for one in module.body if isinstance(one, ast.FunctionDef)
                                                                                       and one.lineno < node.lineno], name)
                else:
                    self.assertIsInstance(node, ast.Expr)
                    self.assertIsInstance(node.value, ast.Constant)
            self.assertEqual(len(seen), len(set(seen)), name)

    def test_imports_have_no_ring_and_name_the_defining_file(self):
        leads = {}
        for name, module in self.each():
            leads[name] = []
            for node in module.body:
                if isinstance(node, ast.ImportFrom):
                    file = node.module.split(".")[1] + ".py"
                    leads[name].append(file)
                    defined = {one.name for one in module_of(file).body if isinstance(one, (ast.FunctionDef, ast.ClassDef))}
                    defined |= {one.targets[0].id for one in module_of(file).body if isinstance(one, ast.Assign)}
                    used = {one.id for one in ast.walk(module) if isinstance(one, ast.Name)}
                    for alias in node.names:
                        self.assertIn(alias.name, defined)
                        self.assertIn(alias.name, used, (name, alias.name))
        while leads:
            free = [name for name in leads if not any(other in leads for other in leads[name])]
            self.assertTrue(free, leads)
            for name in free:
                del leads[name]

    def test_nodes(self):
        for name, module in self.each():
            allowed_sets = set()
            for node in ast.walk(module):
                where = (name, getattr(node, "lineno", 0))
                if isinstance(node, ast.JoinedStr):
                    allowed_sets.update(id(part) for part in node.values)
                if isinstance(node, BARRED_NODES) and id(node) not in allowed_sets:
                    self.fail((where, type(node).__name__))
                if isinstance(node, ast.Constant):
                    self.assertNotIsInstance(node.value, (float, complex), where)
                if isinstance(node, ast.ClassDef):
                    self.check_class(node, where)
                elif isinstance(node, ast.FunctionDef) and node.decorator_list:
                    self.assertIn(ast.unparse(node.decorator_list[0]), ("property", "classmethod"), where)
                    self.assertEqual(len(node.decorator_list), 1, where)
                if isinstance(node, ast.Try):
                    self.check_try(node, where)
                if isinstance(node, ast.Yield):
                    self.assertIsNotNone(node.value)
                if isinstance(node, ast.FunctionDef):
                    self.check_function(node, where)

    def check_class(self, node, where):
        self.assertEqual(node.decorator_list, [], where)
        for one in node.body:
            if isinstance(one, ast.FunctionDef):
                self.assertTrue(one.name in DUNDERS or not one.name.startswith("__"), (where, one.name))
                if one.name in DUNDERS - {"__init__", "__call__"}:
                    names = {"__contains__": ["self", "x"], "__getitem__": ["self", "at"]}.get(one.name, ["self", "other"])
                    self.assertEqual([arg.arg for arg in one.args.args], names[:len(one.args.args)], where)
                if one.name in ("__len__", "__bool__", "__str__"):
                    told = one.body[-1]
                    self.assertIsInstance(told, ast.Return, where)
                    if one.name != "__bool__":
                        self.assertEqual(told.value.func.id, {"__len__": "len", "__str__": "str"}[one.name], where)
            else:
                self.assertTrue(isinstance(one, ast.Expr) and isinstance(one.value, ast.Constant), where)
        names = [one.name for one in node.body if isinstance(one, ast.FunctionDef)]
        if "__getitem__" in names:
            self.assertIn("__iter__", names, where)

    def check_try(self, node, where):
        """Own errors are caught, or all is set back in a "finally" that only assigns names to attributes."""
        for handler in node.handlers:
            self.assertIsNone(handler.name, where)
            for error in (handler.type.elts if isinstance(handler.type, ast.Tuple) else [handler.type]):
                self.assertIn(error.id, {one.name for one in module_of("errors.py").body if isinstance(one, ast.ClassDef)}, where)
        for one in node.finalbody:
            self.assertIsInstance(one, ast.If, where)
            self.assertRegex(ast.unparse(one.test), r"^[a-z]+ is not None$")
            self.assertEqual(one.orelse, [])
            for inner in one.body:
                self.assertRegex(ast.unparse(inner), r"^self\._[a-z]+ = [a-z]+$")

    def check_function(self, node, where):
        self.assertLessEqual(node.end_lineno - node.lineno + 1, 40, where)
        self.assertIsNone(node.returns, where)
        arguments = node.args
        self.assertFalse(arguments.vararg or arguments.kwarg or arguments.kwonlyargs or arguments.posonlyargs, where)
        for inner in ast.walk(node):
            if inner is not node:
                self.assertNotIsInstance(inner, (ast.FunctionDef, ast.ClassDef), where)

    def test_strings(self):
        for name, module in self.each():
            docstrings = {id(node.body[0].value) for node in ast.walk(module)
                          if isinstance(node, (ast.Module, ast.FunctionDef, ast.ClassDef)) and ast.get_docstring(node)}
            for node in ast.walk(module):
                if isinstance(node, ast.Constant) and isinstance(node.value, str) and id(node) not in docstrings:
                    self.assertNotIn("%", node.value)
                    self.assertIsNone(re.search(r"\btype\b|__", node.value), (name, node.lineno))

    def test_names(self):
        for name, module in self.each():
            globals_here = {alias.name for node in module.body if isinstance(node, ast.ImportFrom) for alias in node.names}
            globals_here |= {node.name for node in module.body if isinstance(node, (ast.ClassDef, ast.FunctionDef))}
            for node in ast.walk(module):
                given = []
                if isinstance(node, ast.arg):
                    given = [node.arg]
                elif isinstance(node, ast.Name) and isinstance(node.ctx, ast.Store):
                    given = [node.id]
                elif isinstance(node, (ast.FunctionDef, ast.ClassDef)):
                    given = [node.name]
                for one in given:
                    where = (name, node.lineno, one)
                    self.assertNotIn(one, BARRED_NAMES, where)
                    self.assertNotIn(one, BUILTIN_NAMES, where)
                    if not isinstance(node, (ast.FunctionDef, ast.ClassDef)):
                        self.assertNotIn(one, globals_here, where)
                    if not one.startswith("__"):
                        self.assertRegex(one, r"^(_|_?[A-Za-z][A-Za-z0-9_]*)$", where)

    def test_calls(self):
        own_methods = set()
        for _, module in self.each():
            for node in module.body:
                if isinstance(node, ast.ClassDef):
                    own_methods |= {one.name for one in node.body if isinstance(one, ast.FunctionDef)}
        self.assertFalse({one for one in own_methods if not one.startswith("__")} & VALUE_METHODS)
        for name, module in self.each():
            known = {alias.name for node in module.body if isinstance(node, ast.ImportFrom) for alias in node.names}
            known |= {node.name for node in module.body if isinstance(node, (ast.ClassDef, ast.FunctionDef))}
            for node in ast.walk(module):
                if isinstance(node, ast.Call) and isinstance(node.func, ast.Name):
                    if (name, node.func.id) not in CALLED_LOCALS:
                        self.assertIn(node.func.id, known | BUILTINS, (name, node.lineno))
                elif isinstance(node, ast.Call):
                    self.assertIsInstance(node.func, ast.Attribute, (name, node.lineno))
                    self.assertIn(node.func.attr, METHODS | own_methods | {"__init__"}, (name, node.lineno))
                if isinstance(node, ast.Call):
                    for keyword in node.keywords:
                        self.assertEqual(keyword.arg, "default", (name, node.lineno))

    def test_methods_are_no_attributes(self):
        methods, attributes = {}, {}
        for name, module in self.each():
            for node in module.body:
                if isinstance(node, ast.ClassDef):
                    for inner in ast.walk(node):
                        if isinstance(inner, ast.FunctionDef) and not inner.name.startswith("__"):
                            methods.setdefault(inner.name, (name, inner.lineno))
                        elif isinstance(inner, ast.Attribute) and isinstance(inner.ctx, ast.Store):
                            attributes.setdefault(inner.attr, (name, inner.lineno))
        for word in methods:
            self.assertNotIn(word, attributes, (methods[word], attributes.get(word)))

    def each_method(self):
        """The triples (file, class, method) of all methods."""
        return [(name, node, one) for name, module in self.each() for node in module.body if isinstance(node, ast.ClassDef)
                for one in node.body if isinstance(one, ast.FunctionDef)]

    def test_properties_class_methods_and_generators_have_names_of_their_own(self):
        told = {}
        for name, node, one in self.each_method():
            kind = ast.unparse(one.decorator_list[0]) if one.decorator_list else "plain"
            if any(isinstance(inner, ast.Yield) for inner in ast.walk(one)):
                kind = "generator"
            told.setdefault(one.name, set()).add(kind)
        for word, kinds in told.items():
            self.assertEqual(len(kinds), 1, word)
        functions = {node.name for _, module in self.each() for node in module.body if isinstance(node, ast.FunctionDef)}
        for word, kinds in told.items():
            if kinds & {"classmethod", "generator"}:
                self.assertNotIn(word, functions)

    def test_what_only_looks_changes_nothing(self):
        """Operators, properties and the like, and all that they call, change only lists and dicts that they made."""
        functions, methods, starts = {}, {}, []
        for name, module in self.each():
            for node in module.body:
                if isinstance(node, ast.FunctionDef):
                    functions[(name, node.name)] = node
        imports = {}
        for name, module in self.each():
            imports[name] = {alias.name: node.module.split(".")[1] + ".py" for node in module.body if isinstance(node, ast.ImportFrom) for alias in node.names}
        for name, node, one in self.each_method():
            methods.setdefault(one.name, []).append((name, one))
            if one.name in LOOKING or (one.decorator_list and ast.unparse(one.decorator_list[0]) == "property"):
                starts.append((name, one))
        seen, waiting = set(), starts
        while waiting:
            name, node = waiting.pop()
            if (name, node.name, node.lineno) in seen:
                continue
            seen.add((name, node.name, node.lineno))
            self.check_changes_nothing(name, node)
            for inner in ast.walk(node):
                if isinstance(inner, ast.Call) and isinstance(inner.func, ast.Name):
                    file = imports[name].get(inner.func.id, name)
                    if (file, inner.func.id) in functions:
                        waiting.append((file, functions[(file, inner.func.id)]))
                    else:
                        self.assertNotIn((name, inner.func.id), CALLED_LOCALS - {("lifevalues.py", "cls")})
                elif isinstance(inner, ast.Attribute) and inner.attr in methods and not inner.attr.startswith("__"):
                    waiting.extend(methods[inner.attr])
        self.assertGreater(len(seen), 60)

    def check_changes_nothing(self, name, node):
        made = {}
        for inner in ast.walk(node):
            if isinstance(inner, ast.Assign):
                for target in inner.targets:
                    if isinstance(target, ast.Name):
                        made.setdefault(target.id, []).append(self.is_made(inner.value))
        for inner in ast.walk(node):
            where = (name, node.name, getattr(inner, "lineno", 0))
            if isinstance(inner, ast.Attribute) and isinstance(inner.ctx, ast.Store):
                self.fail(where)
            changed = None
            if isinstance(inner, ast.Subscript) and isinstance(inner.ctx, ast.Store):
                changed = inner.value
            if isinstance(inner, ast.Call) and isinstance(inner.func, ast.Attribute) and inner.func.attr in MODIFYING:
                changed = inner.func.value
            if changed is not None:
                self.assertIsInstance(changed, ast.Name, where)
                self.assertTrue(made.get(changed.id) and all(made[changed.id]), where)

    def is_made(self, value):
        if isinstance(value, (ast.List, ast.Dict, ast.ListComp, ast.DictComp)):
            return True
        return isinstance(value, ast.Call) and isinstance(value.func, ast.Name) and value.func.id in ("list", "dict", "sorted")

    def test_sets_and_identity(self):
        for name, module in self.each():
            parents = {}
            for node in ast.walk(module):
                for inner in ast.iter_child_nodes(node):
                    parents[inner] = node
            for node in ast.walk(module):
                if isinstance(node, ast.Call) and isinstance(node.func, ast.Name) and node.func.id == "set":
                    around = parents[node]
                    name_around = getattr(getattr(around, "func", None), "id", "")
                    self.assertIn(name_around, ("len", "sorted"), (name, node.lineno))
                if isinstance(node, ast.Compare) and isinstance(node.ops[0], (ast.Is, ast.IsNot)):
                    right = node.comparators[0]
                    is_type = isinstance(node.left, ast.Call) and getattr(node.left.func, "id", "") == "type"
                    self.assertTrue(is_type or isinstance(right, ast.Constant), (name, node.lineno))
                if isinstance(node, ast.Call) and isinstance(node.func, ast.Name) and node.func.id == "type":
                    self.assertIsInstance(parents[node], ast.Compare)
                if isinstance(node, ast.Attribute) and isinstance(node.ctx, ast.Store):
                    self.assertNotIn(node.attr, VALUE_METHODS, (name, node.lineno))


if __name__ == "__main__":
    unittest.main()
