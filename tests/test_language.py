"""Tests that the package keeps to those rules of ../shared/LANGUAGE.md that its text alone shows.

They are narrower than the rules where the package needs no more, so that a place that goes further is looked at.
"""

import ast
import builtins
import re
import unittest
from pathlib import Path

PACKAGE = Path(__file__).resolve().parent.parent / "letbychecks"
FILES = sorted(path for path in PACKAGE.rglob("*") if "__pycache__" not in path.parts)
LIBRARY = {"math": {"gcd", "lcm"}}
BUILTINS = set("""len range enumerate zip min max sum abs sorted reversed int str bool list tuple dict set isinstance
    any all divmod iter property staticmethod ValueError""".split())
METHODS = set("""append copy count extend find get index insert items join keys partition pop setdefault split
    startswith values bit_length""".split())
DOUBLE = {"__init__", "__eq__", "__len__", "__iter__"}
PROPERTIES = {"ended", "piece_posts", "log", "watched"}
STATIC = {"from_edits"}
OWN_METHODS = STATIC | {"ties_at", "do_edit", "add_check", "drop_check", "set_price", "take_back", "verdict_now",
                        "price_now", "fault_now", "watch_row", "let_now", "tried_edits"}
CLASS_VALUES = {"MOST_TIES"}
BARRED_NAMES = set("""register mro elements open input law version_info with_traceback add_note attrgetter breakpoint
    builtins compile copyright credits delattr dir eval exec exit gc globals help id importlib license locals
    methodcaller os quit super type vars sys""".split())
BARRED_WORDS = set("""type typing typing_extensions enum Enum IntEnum StrEnum Flag IntFlag Generic Protocol ABC ABCMeta
    namedtuple NamedTuple TypedDict TYPE_CHECKING abstractmethod""".split())
NODES = (ast.GeneratorExp, ast.Global, ast.AsyncFunctionDef, ast.AsyncFor, ast.AsyncWith, ast.Await, ast.AnnAssign,
         ast.Div, ast.NamedExpr, ast.Match, ast.Delete, ast.Nonlocal, ast.Pow, ast.With, ast.Assert, ast.Lambda,
         ast.JoinedStr, ast.Set, ast.SetComp)
AT_ONCE = ("range", "zip", "enumerate", "reversed")


def parsed(path):
    """The tree of a file, in which each node knows the one above it."""
    tree = ast.parse(path.read_text())
    for node in ast.walk(tree):
        for child in ast.iter_child_nodes(node):
            child.above = node
    return tree


TREES = {path.stem: parsed(path) for path in FILES if path.suffix == ".py"}


def all_nodes(*kinds):
    """The couples of file and node of these kinds."""
    return [(name, node) for name, tree in TREES.items() for node in ast.walk(tree) if isinstance(node, kinds)]


def docstrings(tree):
    """The nodes that are docstrings."""
    found = []
    for node in ast.walk(tree):
        if isinstance(node, (ast.Module, ast.ClassDef, ast.FunctionDef)) and ast.get_docstring(node) is not None:
            found.append(node.body[0].value)
    return found


def called(node):
    """The bare name of what is called, or None."""
    return node.func.id if isinstance(node, ast.Call) and isinstance(node.func, ast.Name) else None


def bound_names(function):
    """The names of the parameters and local variables of a function."""
    names = {argument.arg for argument in ast.walk(function.args) if isinstance(argument, ast.arg)}
    return names | {node.id for node in ast.walk(function) if isinstance(node, ast.Name)
                    and isinstance(node.ctx, ast.Store)}


def is_plain(node):
    """Whether a value at module level is a plain literal: a dict holds no list or dict."""
    if isinstance(node, ast.Dict):
        return all(map(is_flat, node.keys)) and all(map(is_flat, node.values))
    return is_flat(node)


def is_flat(node):
    """Whether a value is a literal without a list or a dict."""
    return isinstance(node, ast.Constant) or isinstance(node, ast.Tuple) and all(map(is_flat, node.elts))


def class_functions(node):
    """The functions in the body of a class."""
    return [child for child in node.body if isinstance(child, ast.FunctionDef)]


def function_of(node):
    """The function in which a node stands."""
    while not isinstance(node, ast.FunctionDef):
        node = node.above
    return node


def base_of(node):
    """The name at the left of items and attributes, or None."""
    while isinstance(node, (ast.Subscript, ast.Attribute)):
        node = node.value
    return node.id if isinstance(node, ast.Name) else None


def alike_names(function):
    """A dict of each name of a function to all names that may stand for the same thing: by plain assignments."""
    groups = {}
    for node in ast.walk(function):
        if isinstance(node, ast.Assign):
            for source in ast.walk(node.value) if isinstance(node.value, (ast.IfExp, ast.BoolOp)) else [node.value]:
                for target in node.targets:
                    if isinstance(source, ast.Name) and isinstance(target, ast.Name):
                        joined = groups.get(source.id, {source.id}) | groups.get(target.id, {target.id})
                        groups.update({name: joined for name in joined})
    return groups


def walked_names(node):
    """The names of what a loop goes over, and those that may stand for the same things."""
    parts = [node.iter]
    if called(node.iter) in AT_ONCE:
        parts = node.iter.args
    elif isinstance(node.iter, ast.Call) and isinstance(node.iter.func, ast.Attribute):
        parts = [node.iter.func.value]
    names = {base_of(part) for part in parts} - {None}
    groups = alike_names(function_of(node))
    return names.union(*[groups.get(name, set()) for name in names])


class Files(unittest.TestCase):
    def test_names(self):
        for path in FILES:
            self.assertRegex(str(path.relative_to(PACKAGE)), r"^[a-z_][a-z0-9_]*\.py$")

    def test_characters_and_sizes(self):
        for path in FILES:
            text = path.read_bytes()
            self.assertTrue(all(sign == 10 or 32 <= sign <= 126 for sign in text), path.name)
            lines = text.decode().split("\n")
            self.assertLessEqual(len(lines) - 1, 399, path.name)
            self.assertLessEqual(max(map(len, lines)), 120, path.name)
            self.assertEqual([line for line in lines if line != line.rstrip()], [], path.name)

    def test_sizes_of_functions(self):
        for name, node in all_nodes(ast.FunctionDef):
            self.assertLessEqual(node.end_lineno - node.lineno + 1, 40, (name, node.name))

    def test_words(self):
        for path in FILES:
            for sign in ("_wall", "_WallAttr", "dataclass", "overload", "contextmanager"):
                self.assertNotIn(sign, path.read_text())

    def test_imports(self):
        defined = {name: {node.name for node in tree.body if isinstance(node, (ast.FunctionDef, ast.ClassDef))}
                   | {node.targets[0].id for node in tree.body if isinstance(node, ast.Assign)}
                   for name, tree in TREES.items()}
        self.assertEqual(all_nodes(ast.Import), [])
        for name, node in all_nodes(ast.ImportFrom):
            self.assertEqual(node.level, 0)
            package, _, module = node.module.partition(".")
            allowed = defined[module] if package == "letbychecks" else LIBRARY[node.module]
            for alias in node.names:
                self.assertIn(alias.name, allowed, name)
                self.assertIsNone(alias.asname)

    def test_no_round_of_imports(self):
        needs = {name: {node.module.split(".")[1] for node in tree.body if isinstance(node, ast.ImportFrom)
                        and node.module.startswith("letbychecks.")} for name, tree in TREES.items()}
        done = set()
        while len(done) < len(needs):
            free = {name for name in needs if name not in done and needs[name] <= done}
            self.assertTrue(free, "files that import from each other")
            done |= free

    def test_imported_names_are_used(self):
        for name, tree in TREES.items():
            used = {node.id for node in ast.walk(tree) if isinstance(node, ast.Name)}
            for node in ast.walk(tree):
                if isinstance(node, ast.ImportFrom):
                    self.assertEqual([alias.name for alias in node.names if alias.name not in used], [], name)

    def test_module_level(self):
        for name, tree in TREES.items():
            names = []
            for node in tree.body[1:]:
                if isinstance(node, ast.ImportFrom):
                    names.extend(alias.name for alias in node.names)
                elif isinstance(node, ast.Assign):
                    self.assertTrue(is_plain(node.value), (name, node.lineno))
                    names.extend(target.id for target in node.targets)
                else:
                    self.assertIsInstance(node, (ast.FunctionDef, ast.ClassDef), (name, node.lineno))
                    names.append(node.name)
            self.assertEqual(sorted(names), sorted(set(names)), name)
            self.assertIsNotNone(ast.get_docstring(tree), name)


class Names(unittest.TestCase):
    def test_plain(self):
        for name, node in all_nodes(ast.Name, ast.arg, ast.FunctionDef, ast.ClassDef, ast.Attribute):
            word = getattr(node, "id", None) or getattr(node, "arg", None) or getattr(node, "name", None) or node.attr
            self.assertTrue(re.fullmatch(r"[A-Za-z][A-Za-z0-9_]*|_", word) or word in DOUBLE, (name, word))
            self.assertNotIn(word, BARRED_NAMES | BARRED_WORDS, (name, node.lineno))

    def test_underscore_is_never_read(self):
        for name, node in all_nodes(ast.Name):
            self.assertFalse(node.id == "_" and isinstance(node.ctx, ast.Load), (name, node.lineno))

    def test_no_builtin_is_bound(self):
        for name, tree in TREES.items():
            imports = {alias.name for node in tree.body if isinstance(node, ast.ImportFrom) for alias in node.names}
            classes = {node.name for node in tree.body if isinstance(node, ast.ClassDef)}
            for node in ast.walk(tree):
                if isinstance(node, ast.FunctionDef):
                    self.assertFalse(node.name not in DOUBLE and hasattr(builtins, node.name), (name, node.name))
                    for word in bound_names(node):
                        self.assertFalse(hasattr(builtins, word), (name, word))
                        self.assertNotIn(word, imports | classes, (name, word))

    def test_only_some_builtins(self):
        for name, node in all_nodes(ast.Name):
            if hasattr(builtins, node.id) and isinstance(node.ctx, ast.Load):
                self.assertIn(node.id, BUILTINS, (name, node.lineno))

    def test_only_some_methods(self):
        for name, node in all_nodes(ast.Call):
            if isinstance(node.func, ast.Attribute):
                self.assertIn(node.func.attr, METHODS | OWN_METHODS, (name, node.lineno))
                self.assertEqual(node.keywords, [], (name, node.lineno))

    def test_attributes_are_assigned(self):
        stored = {node.attr for _, node in all_nodes(ast.Attribute) if isinstance(node.ctx, ast.Store)}
        for name, node in all_nodes(ast.Attribute):
            if not (isinstance(node.above, ast.Call) and node.above.func is node):
                self.assertIn(node.attr, stored | PROPERTIES | CLASS_VALUES, (name, node.lineno))


class Nodes(unittest.TestCase):
    def test_what_is_not_used(self):
        self.assertEqual([(name, node) for name, node in all_nodes(*NODES)], [])

    def test_values(self):
        for name, node in all_nodes(ast.Constant):
            self.assertIsInstance(node.value, (int, str, bool, type(None)), (name, getattr(node, "lineno", 0)))
            if isinstance(node.value, str):
                self.assertNotRegex(node.value, r"[%{}]|\.__?$", name)
                words = set(re.findall(r"\w+", node.value))
                if node not in docstrings(TREES[name]):
                    self.assertFalse(words & BARRED_WORDS, (name, node.lineno))

    def test_functions(self):
        for name, node in all_nodes(ast.FunctionDef):
            self.assertEqual([ast.unparse(sign) for sign in node.decorator_list],
                             ["property"] if node.name in PROPERTIES else
                             ["staticmethod"] if node.name in STATIC else [], (name, node.name))
            self.assertIsNone(node.returns)
            self.assertFalse(any(argument.annotation for argument in ast.walk(node.args)
                                 if isinstance(argument, ast.arg)))
            self.assertIsNone(node.args.kwarg)
            self.assertIsInstance(node.above, (ast.Module, ast.ClassDef), (name, node.name))
            if not isinstance(node.above, ast.ClassDef):
                self.assertIsNotNone(ast.get_docstring(node), (name, node.name))

    def test_classes(self):
        for name, node in all_nodes(ast.ClassDef):
            self.assertIsInstance(node.above, ast.Module)
            self.assertIsNotNone(ast.get_docstring(node))
            for child in node.body[1:]:
                if isinstance(child, ast.Assign):
                    self.assertTrue(is_flat(child.value), (name, node.name))
                    self.assertIn(ast.unparse(child.targets), CLASS_VALUES, (name, node.name))
                else:
                    self.assertIn(child.name, DOUBLE | PROPERTIES | OWN_METHODS, (name, node.name))

    def test_own_names_of_classes_stand_for_nothing_else(self):
        """No attribute, function or name of a file has the name of a method, a property or a class value."""
        stored = {node.attr for _, node in all_nodes(ast.Attribute) if isinstance(node.ctx, ast.Store)}
        functions = {node.name for _, node in all_nodes(ast.FunctionDef) if isinstance(node.above, ast.Module)}
        self.assertFalse((stored | functions) & (PROPERTIES | OWN_METHODS | CLASS_VALUES))

    def test_properties_call_nothing_of_their_own(self):
        """So they change nothing but lists of their own: L5 asks this of all that a property calls, too."""
        functions = {node.name for _, node in all_nodes(ast.FunctionDef)}
        for name, node in all_nodes(ast.FunctionDef):
            if node.name in PROPERTIES:
                for child in ast.walk(node):
                    if isinstance(child, ast.Call):
                        self.assertNotIn(called(child), functions | {None}, (name, node.name))
                    if isinstance(child, (ast.Attribute, ast.Subscript)):
                        self.assertIsInstance(child.ctx, ast.Load, (name, node.name))

    def test_iterated_classes(self):
        """An __iter__ is one plain line, and a class that has one has no __len__."""
        for name, node in all_nodes(ast.ClassDef):
            methods = {child.name: child for child in class_functions(node)}
            if "__iter__" in methods:
                self.assertNotIn("__len__", methods)
                self.assertRegex(ast.unparse(methods["__iter__"].body[-1]), r"^return iter\(self\.\w+\)$")
                self.assertEqual(len(methods["__iter__"].body), 1)

    def test_iter_and_property_stand_nowhere_else(self):
        for name, node in all_nodes(ast.Name):
            if node.id == "iter":
                self.assertEqual(node.above.above.above.name, "__iter__", (name, node.lineno))
            if node.id == "property":
                self.assertIn(getattr(node.above, "name", None), PROPERTIES, (name, node.lineno))
            if node.id == "staticmethod":
                self.assertIn(getattr(node.above, "name", None), STATIC, (name, node.lineno))

    def test_is(self):
        for name, node in all_nodes(ast.Compare):
            for sign, right in zip(node.ops, node.comparators):
                if isinstance(sign, (ast.Is, ast.IsNot)):
                    self.assertIsInstance(right, ast.Constant, (name, node.lineno))

    def test_raised_and_caught(self):
        errors = {node.name for node in TREES["errors"].body if isinstance(node, ast.ClassDef)}
        for name, node in all_nodes(ast.Raise):
            self.assertIn(called(node.exc), errors, (name, node.lineno))
            self.assertEqual(node.exc.keywords, [])
        for name, node in all_nodes(ast.ExceptHandler):
            for caught in node.type.elts if isinstance(node.type, ast.Tuple) else [node.type]:
                self.assertIn(caught.id, errors, (name, node.lineno))

    def test_iterated_at_once(self):
        generators = {node.name for _, node in all_nodes(ast.FunctionDef)
                      if any(isinstance(child, (ast.Yield, ast.YieldFrom)) for child in ast.walk(node))}
        for name, node in all_nodes(ast.Call):
            above = node.above
            view = isinstance(node.func, ast.Attribute) and node.func.attr in ("items", "keys", "values")
            if view or called(node) in AT_ONCE:
                fit = isinstance(above, (ast.For, ast.comprehension)) or called(above) in ("list", "tuple")
                fit = fit or called(node) == "range" and called(above) == "reversed"
                self.assertTrue(fit, (name, node.lineno))
            if called(node) in generators:
                fit = isinstance(above, (ast.For, ast.comprehension)) or called(above) in ("list", "tuple")
                self.assertTrue(fit, (name, node.lineno))

    def test_generators_are_no_values(self):
        generators = {node.name for _, node in all_nodes(ast.FunctionDef)
                      if any(isinstance(child, (ast.Yield, ast.YieldFrom)) for child in ast.walk(node))}
        names = [node.name for _, node in all_nodes(ast.FunctionDef)]
        for name in generators:
            self.assertEqual(names.count(name), 1, name)
        for name, node in all_nodes(ast.Name):
            if node.id in generators:
                self.assertTrue(isinstance(node.above, ast.Call) and node.above.func is node, (name, node.lineno))

    def test_sets(self):
        for name, node in all_nodes(ast.Call):
            if called(node) == "set":
                above = node.above
                while isinstance(above, ast.BinOp):
                    above = above.above
                self.assertIn(called(above), ("len", "sorted"), (name, node.lineno))

    def test_no_stars_in_calls(self):
        for name, node in all_nodes(ast.Starred):
            self.assertIsInstance(node.above, (ast.List, ast.Tuple), (name, node.lineno))

    def test_keywords_of_calls(self):
        for name, node in all_nodes(ast.Call):
            for keyword in node.keywords:
                self.assertEqual(called(node), "sorted", (name, node.lineno))
                self.assertIn(keyword.arg, ("key", "reverse"), (name, node.lineno))
                if keyword.arg == "reverse":
                    self.assertIsInstance(keyword.value, ast.Constant, (name, node.lineno))

    def test_stars_of_functions(self):
        """Only one function has a star among its parameters, and one a bare star."""
        told = [(node.name, node.args.vararg is not None) for _, node in all_nodes(ast.FunctionDef)
                if node.args.vararg or node.args.kwonlyargs]
        self.assertLessEqual(set(told), {("joined_stops", True), ("peel_erased", False)})

    def test_what_loops_go_over_is_not_changed(self):
        """Neither by its own name nor by one that may stand for the same thing, nor a part of it."""
        for name, node in all_nodes(ast.For):
            over = walked_names(node)
            for child in ast.walk(ast.Module(body=node.body, type_ignores=[])):
                if isinstance(child, (ast.Subscript, ast.Attribute)) and isinstance(child.ctx, ast.Store):
                    self.assertNotIn(base_of(child), over, (name, node.lineno))
                if isinstance(child, ast.Name) and isinstance(child.ctx, ast.Store):
                    self.assertNotEqual(child.id, ast.unparse(node.iter), (name, node.lineno))
                if isinstance(child, ast.Call) and isinstance(child.func, ast.Attribute):
                    changes = child.func.attr in ("append", "pop", "extend", "insert", "setdefault")
                    self.assertFalse(changes and base_of(child.func.value) in over, (name, node.lineno))


if __name__ == "__main__":
    unittest.main()
