"""The package's files keep to the small part of Python that they are to be written in."""

import ast
import builtins
import pathlib
import re
import unittest

PACKAGE = pathlib.Path(__file__).resolve().parent.parent / "believed"

NODES = set("""
Module Expr FunctionDef arguments arg ClassDef Assign AugAssign If While For Return Break Continue Pass Raise Try
ExceptHandler ImportFrom alias Name Attribute Subscript Slice Constant List Tuple Dict Set Call keyword Lambda
BinOp Add Sub Mult FloorDiv Mod Pow BitAnd BitOr BitXor LShift RShift UnaryOp USub UAdd Not Invert BoolOp And Or
Compare Eq NotEq Lt LtE Gt GtE Is IsNot In NotIn IfExp ListComp comprehension JoinedStr FormattedValue Load Store
""".split())

BUILTINS = set("""
len range enumerate zip min max sum abs sorted reversed int str bool list tuple dict set frozenset isinstance ord repr
any all divmod Exception ValueError KeyError IndexError LookupError ZeroDivisionError ArithmeticError OverflowError
RuntimeError NotImplementedError AttributeError StopIteration TypeError
""".split())

METHODS = set("""
append clear copy count endswith extend find get index insert isalnum isalpha isdigit islower isspace isupper items
join keys ljust lower lstrip partition pop remove replace reverse rfind rjust rpartition rsplit rstrip setdefault split
splitlines startswith strip update upper values zfill bit_length
""".split())

UNUSED = set("""
register mro elements open input version_info with_traceback add_note format format_map chr
""".split())

WORDS = set("""
type typing typing_extensions enum Enum IntEnum StrEnum Flag IntFlag Generic Protocol ABC ABCMeta namedtuple NamedTuple
TypedDict TYPE_CHECKING abstractmethod
""".split())

KINDS_WITH_METHODS = (str, int, list, dict, set, bytes, tuple)


def files():
    return sorted(path for path in PACKAGE.rglob("*") if "__pycache__" not in path.parts)


def bound_names(tree):
    """Every name that the file itself gives: by a def, a class, a parameter, an assignment, a loop."""
    for node in ast.walk(tree):
        if isinstance(node, (ast.FunctionDef, ast.ClassDef)):
            yield node.name
        elif isinstance(node, ast.arg):
            yield node.arg
        elif isinstance(node, ast.Name) and isinstance(node.ctx, ast.Store):
            yield node.id
        elif isinstance(node, ast.Attribute) and isinstance(node.ctx, ast.Store):
            yield node.attr


def parents(tree):
    """Of every part of a file the part that it straight stands in."""
    return {part: node for node in ast.walk(tree) for part in ast.iter_child_nodes(node)}


def called(node):
    """The name of what is called, if it's called by a name alone."""
    return node.func.id if isinstance(node, ast.Call) and isinstance(node.func, ast.Name) else None


class Form(unittest.TestCase):

    def sources(self):
        for path in files():
            yield path.name, path.read_text(encoding="utf-8")

    def trees(self):
        for name, text in self.sources():
            yield name, ast.parse(text)

    def test_files(self):
        names = [path.relative_to(PACKAGE).as_posix() for path in files()]
        self.assertIn("__init__.py", names)
        for name in names:
            self.assertRegex(name, r"^(__init__|[a-z][a-z0-9_]*)\.py$")
            self.assertNotIn(name[:-3], dir(builtins))

    def test_signs_and_sizes(self):
        for name, text in self.sources():
            self.assertEqual(re.findall(r"[^ -~\n]", text), [], name)
            rows = text.splitlines()
            self.assertLessEqual(len(rows), 400, name)
            self.assertEqual([row for row in rows if len(row) > 120], [], name)

    def test_words(self):
        for name, text in self.sources():
            self.assertEqual(sorted(set(re.findall(r"\w+", text)) & (WORDS | UNUSED)), [], name)
            self.assertEqual(re.findall(r"dataclass|overload|contextmanager", text), [], name)

    def test_functions(self):
        for name, tree in self.trees():
            for node in ast.walk(tree):
                if isinstance(node, ast.FunctionDef):
                    where = f"{name}:{node.lineno} {node.name}"
                    self.assertLessEqual(node.end_lineno - node.lineno + 1, 40, where)
                    self.assertEqual(node.decorator_list, [], where)
                    given = node.args
                    self.assertFalse(given.vararg or given.kwarg or given.kwonlyargs or given.posonlyargs, where)

    def test_nodes(self):
        for name, tree in self.trees():
            for node in ast.walk(tree):
                where = f"{name}:{getattr(node, 'lineno', 0)}"
                self.assertIn(type(node).__name__, NODES, where)
                if isinstance(node, (ast.For, ast.While)):
                    self.assertEqual(node.orelse, [], where)
                if isinstance(node, ast.Assign):
                    self.assertEqual(len(node.targets), 1, where)
                if isinstance(node, ast.Try):
                    self.assertEqual(node.finalbody, [], where)
                if isinstance(node, ast.Constant):
                    self.assertIn(type(node.value), (int, str, bool, type(None)), where)
                if isinstance(node, ast.ListComp):
                    self.assertEqual(len(node.generators), 1, where)
                    self.assertLessEqual(len(node.generators[0].ifs), 1, where)

    def test_imports(self):
        for name, tree in self.trees():
            for node in ast.walk(tree):
                if isinstance(node, ast.ImportFrom):
                    self.assertIn(node, tree.body, name)
                    self.assertEqual(node.level, 0, name)
                    self.assertRegex(node.module, r"^believed\.", name)
                    self.assertNotIn("*", [each.name for each in node.names], name)

    def test_imports_are_from_the_file_that_defines_the_name_and_go_no_round(self):
        defined = {}
        drawn = {}
        for name, tree in self.trees():
            module = "believed." + name[:-3]
            defined[module] = {node.name for node in tree.body if isinstance(node, (ast.FunctionDef, ast.ClassDef))}
            defined[module].update(node.targets[0].id for node in tree.body if isinstance(node, ast.Assign))
            drawn[module] = [node for node in tree.body if isinstance(node, ast.ImportFrom)]
        self.assertEqual((defined["believed.__init__"], drawn["believed.__init__"]), (set(), []))
        for module, rows in drawn.items():
            for row in rows:
                for each in row.names:
                    self.assertIn(each.name, defined[row.module], module)
                    self.assertIsNone(each.asname, module)
        ready = set()
        for turn in drawn:
            ready.update(module for module, rows in drawn.items() if {row.module for row in rows} <= ready)
        self.assertEqual(ready, set(drawn))

    def test_what_is_imported_is_used(self):
        for name, tree in self.trees():
            used = {node.id for node in ast.walk(tree) if isinstance(node, ast.Name)}
            for node in tree.body:
                if isinstance(node, ast.ImportFrom):
                    self.assertEqual([each.name for each in node.names if each.name not in used], [], name)

    def test_no_local_is_called_like_a_name_of_the_files_top(self):
        for name, tree in self.trees():
            top = {node.name for node in tree.body if isinstance(node, (ast.FunctionDef, ast.ClassDef))}
            top.update(node.targets[0].id for node in tree.body if isinstance(node, ast.Assign))
            top.update(each.name for node in tree.body if isinstance(node, ast.ImportFrom) for each in node.names)
            for node in ast.walk(tree):
                if isinstance(node, ast.FunctionDef):
                    own = set(bound_names(ast.Module(body=node.body, type_ignores=[])))
                    own.update(each.arg for each in node.args.args)
                    self.assertEqual(sorted(own & top), [], f"{name}:{node.lineno}")

    def test_classes_are_only_called(self):
        classes = {node.name for name, tree in self.trees() for node in tree.body if isinstance(node, ast.ClassDef)}
        for name, tree in self.trees():
            above = parents(tree)
            for node in ast.walk(tree):
                if isinstance(node, ast.Name) and node.id in classes:
                    self.assertEqual(called(above[node]), node.id, f"{name}:{node.lineno}")

    def test_is_stands_beside_none_true_and_false(self):
        for name, tree in self.trees():
            for node in ast.walk(tree):
                if isinstance(node, ast.Compare) and isinstance(node.ops[0], (ast.Is, ast.IsNot)):
                    self.assertIsInstance(node.comparators[0], ast.Constant, f"{name}:{node.lineno}")
                    self.assertIn(node.comparators[0].value, (None, True, False), f"{name}:{node.lineno}")

    def test_sets_are_not_kept(self):
        for name, tree in self.trees():
            above = parents(tree)
            for node in ast.walk(tree):
                self.assertNotIsInstance(node, ast.Set, name)
                if called(node) in ("set", "frozenset"):
                    self.assertIn(called(above[node]), ("sorted", "len"), f"{name}:{node.lineno}")

    def test_what_is_walked_is_walked_at_once(self):
        walkers = ("list", "tuple", "dict", "sorted", "sum", "any", "all", "enumerate", "zip", "min", "max")
        for name, tree in self.trees():
            above = parents(tree)
            for node in ast.walk(tree):
                if called(node) in ("zip", "enumerate", "reversed", "range"):
                    by = above[node]
                    walked = isinstance(by, (ast.For, ast.comprehension)) and by.iter is node
                    self.assertTrue(walked or called(by) in walkers, f"{name}:{node.lineno}")

    def test_names_of_pythons_own(self):
        for name, tree in self.trees():
            for node in ast.walk(tree):
                if isinstance(node, ast.Name) and node.id in dir(builtins):
                    self.assertIn(node.id, BUILTINS, f"{name}:{node.lineno}")

    def test_own_names(self):
        for name, tree in self.trees():
            for own in bound_names(tree):
                if own not in ("__init__", "__eq__", "__repr__", "__str__", "__len__"):
                    self.assertRegex(own, r"^[A-Za-z][A-Za-z0-9_]*$", name)
                    self.assertNotIn(own, dir(builtins), name)

    def test_methods(self):
        own = set()
        for name, tree in self.trees():
            own.update(bound_names(tree))
        for name, tree in self.trees():
            for node in ast.walk(tree):
                if isinstance(node, ast.Attribute) and node.attr not in own and node.attr != "__init__":
                    self.assertIn(node.attr, METHODS, f"{name}:{node.lineno}")

    def test_own_methods_and_values_have_free_names(self):
        taken = {attr for kind in KINDS_WITH_METHODS for attr in dir(kind)}
        for name, tree in self.trees():
            for node in ast.walk(tree):
                if isinstance(node, ast.ClassDef):
                    methods = [each.name for each in node.body if isinstance(each, ast.FunctionDef)]
                    values = {each.attr for each in ast.walk(node)
                              if isinstance(each, ast.Attribute) and isinstance(each.ctx, ast.Store)}
                    self.assertEqual(len(methods), len(set(methods)), name)
                    self.assertEqual(sorted((set(methods) | values) & taken - {"__init__"}), [], name)

    def test_no_name_is_a_method_and_a_value(self):
        methods = set()
        values = set()
        for name, tree in self.trees():
            for node in ast.walk(tree):
                if isinstance(node, ast.ClassDef):
                    methods.update(each.name for each in node.body if isinstance(each, ast.FunctionDef))
                if isinstance(node, ast.Attribute) and isinstance(node.ctx, ast.Store):
                    values.add(node.attr)
        self.assertEqual(sorted(methods & values), [])

    def test_the_top_of_a_file(self):
        allowed = (ast.Expr, ast.ImportFrom, ast.FunctionDef, ast.ClassDef, ast.Assign)
        for name, tree in self.trees():
            bound = []
            for node in tree.body:
                self.assertIsInstance(node, allowed, name)
                if isinstance(node, ast.Expr):
                    self.assertIsInstance(node.value, ast.Constant, name)
                elif isinstance(node, ast.Assign):
                    bound.append(node.targets[0].id)
                elif not isinstance(node, ast.ImportFrom):
                    bound.append(node.name)
            self.assertEqual(len(bound), len(set(bound)), name)


if __name__ == "__main__":
    unittest.main()
