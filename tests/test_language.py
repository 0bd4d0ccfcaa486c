"""The rules of the language subset, L1 to L28, as far as a look at the files tells them.

The program keeps to less than the rules let it: what it does without is not looked for in detail, but refused.
"""

import ast
import builtins
import os
import unittest
import warnings

FOLDER = os.path.join(os.path.dirname(os.path.dirname(os.path.abspath(__file__))), "nearhelp")
NODES = """Module Expr ImportFrom alias FunctionDef ClassDef arguments arg Assign AugAssign Return If While For Continue
Break Pass Raise Try ExceptHandler Name Attribute Subscript Slice Constant Tuple List Dict ListComp DictComp SetComp
comprehension Call BoolOp BinOp UnaryOp Compare IfExp JoinedStr FormattedValue Load Store And Or Not USub Add Sub Mult
FloorDiv Mod Starred BitAnd LShift RShift Eq NotEq Lt LtE Gt GtE Is IsNot In NotIn""".split()
BUILTINS = """len range enumerate zip min max sum abs sorted reversed int str bool list tuple dict set isinstance repr any
all divmod ValueError None True False""".split()
METHODS = """append clear copy count endswith extend find get index insert isalnum isalpha isdigit islower isspace
isupper items join keys ljust lower lstrip partition pop remove replace reverse rfind rjust rpartition rsplit rstrip
setdefault split splitlines startswith strip update upper values zfill bit_length removeprefix""".split()
BARRED_ATTRIBUTES = """items keys values pop update append clear extend insert remove reverse setdefault sort args encode
decode hex fromhex format format_map mro conjugate from_bytes to_bytes bit_count is_integer elements open input law
version_info with_traceback add_note register""".split()
BARRED_NAMES = """mro elements open input law version_info with_traceback add_note register attrgetter breakpoint
builtins compile copyright credits delattr dir eval exec exit gc getattr globals hasattr help id importlib license
locals methodcaller os quit setattr super type vars sys""".split()
BARRED_WORDS = """type typing typing_extensions enum Enum IntEnum StrEnum Flag IntFlag Generic Protocol ABC ABCMeta
namedtuple NamedTuple TypedDict TYPE_CHECKING abstractmethod dataclass overload contextmanager""".split()
OUTSIDE = {"math": ["gcd"]}
AT_ONCE = ("zip", "enumerate", "reversed", "range")
VIEWS = ("items", "keys", "values")


def names_of(nodes):
    return sorted(type(node).__name__ for node in nodes)


class File:
    def __init__(self, name):
        self.name = name
        with open(os.path.join(FOLDER, name), encoding="utf-8") as file:
            self.text = file.read()
        self.tree = ast.parse(self.text)
        self.nodes = list(ast.walk(self.tree))
        self.parents = {child: node for node in self.nodes for child in ast.iter_child_nodes(node)}
        self.functions = self.all_of(ast.FunctionDef)
        self.classes = self.all_of(ast.ClassDef)

    def all_of(self, *kinds):
        return [node for node in self.nodes if isinstance(node, kinds)]

    def imports(self):
        """The pairs of a file of the package and a name that is imported from it."""
        rows = [node for node in self.all_of(ast.ImportFrom) if node.module not in OUTSIDE]
        return [(node.module.split(".")[1] + ".py", item.name) for node in rows for item in node.names]

    def outside(self):
        """The names that are imported from Python's library."""
        rows = [node for node in self.all_of(ast.ImportFrom) if node.module in OUTSIDE]
        return [item.name for node in rows for item in node.names]

    def bound(self):
        """The names bound at module level."""
        found = [name for _, name in self.imports()] + self.outside()
        for node in self.tree.body:
            if isinstance(node, (ast.FunctionDef, ast.ClassDef)):
                found.append(node.name)
            elif isinstance(node, ast.Assign):
                found.append(node.targets[0].id)
        return found

    def locals(self):
        stored = [node.id for node in self.all_of(ast.Name) if isinstance(node.ctx, ast.Store)]
        module = [node.targets[0].id for node in self.tree.body if isinstance(node, ast.Assign)]
        return [name for name in stored if name not in module] + [node.arg for node in self.all_of(ast.arg)]

    def docstrings(self):
        owners = [self.tree] + self.functions + self.classes
        return [node.body[0].value for node in owners if ast.get_docstring(node) is not None]


FILES = [File(name) for name in sorted(os.listdir(FOLDER)) if name != "__pycache__"]


class LanguageTest(unittest.TestCase):
    def each(self, nodes):
        for file in FILES:
            for node in nodes(file):
                with self.subTest(file=file.name, line=getattr(node, "lineno", 0)):
                    yield file, node

    def test_files(self):
        self.assertLessEqual(len(FILES), 100)
        for file in FILES:
            self.assertRegex(file.name, r"^[a-z_][a-z0-9_]*\.py$")
            self.assertNotIn(file.name[:-3], dir(builtins) + BARRED_NAMES + BARRED_WORDS)
            lines = file.text.split("\n")
            self.assertLessEqual(len(lines) - 1, 399, file.name)
            self.assertLessEqual(max(len(line) for line in lines), 120, file.name)
            self.assertEqual([sign for sign in file.text if sign != "\n" and not " " <= sign <= "~"], [])
            with warnings.catch_warnings():
                warnings.simplefilter("error")
                compile(file.text, file.name, "exec")

    def test_only_nodes_that_are_allowed(self):
        for _, node in self.each(lambda file: file.nodes):
            self.assertIn(type(node).__name__, NODES)

    def test_imports(self):
        names = {file.name: file for file in FILES}
        for file in FILES:
            kinds = [isinstance(node, ast.ImportFrom) for node in file.tree.body]
            if ast.get_docstring(file.tree) is not None:
                kinds = kinds[1:]
            self.assertEqual(kinds, sorted(kinds, reverse=True), file.name)
            self.assertEqual(sum(kinds), len(file.all_of(ast.ImportFrom)))
            for node in file.all_of(ast.ImportFrom):
                self.assertEqual(node.level, 0)
                self.assertEqual([item.asname for item in node.names if item.asname], [])
                if node.module in OUTSIDE:
                    self.assertEqual([item.name for item in node.names if item.name not in OUTSIDE[node.module]], [])
                else:
                    self.assertEqual(node.module.split(".")[0], "nearhelp")
            for other, name in file.imports():
                self.assertIn(name, names[other].bound())
                self.assertNotIn((other, name), [row for row in names[other].imports()])
                self.assertNotIn(name, [row[1] for row in names[other].imports()])
                used = [node for node in file.all_of(ast.Name) if node.id == name]
                self.assertNotEqual(used, [], f"{file.name} imports {name}")

    def test_names_from_outside_are_called(self):
        for file in FILES:
            self.assertEqual(set(file.outside()) & set(file.locals()), set())
            for node in file.all_of(ast.Name):
                if node.id in file.outside():
                    parent = file.parents[node]
                    self.assertIsInstance(parent, ast.Call)
                    self.assertIs(parent.func, node)
                    self.assertEqual([parent.keywords, names_of(parent.args).count("Starred")], [[], 0])

    def test_no_circles_of_imports(self):
        left = {file.name: {other for other, _ in file.imports()} for file in FILES}
        while left:
            free = [name for name in left if not left[name] & set(left)]
            self.assertNotEqual(free, [])
            left = {name: left[name] for name in left if name not in free}

    def test_module_level(self):
        for file in FILES:
            self.assertEqual(len(file.bound()), len(set(file.bound())))
            for node in file.tree.body:
                self.assertIn(type(node), [ast.Expr, ast.ImportFrom, ast.FunctionDef, ast.ClassDef, ast.Assign])
                if isinstance(node, ast.Assign):
                    value = ast.literal_eval(node.value)
                    inner = list(value.values()) if isinstance(value, dict) else value if isinstance(value, tuple) else []
                    self.assertNotIsInstance(value, list)
                    self.assertEqual([item for item in inner if isinstance(item, (list, dict))], [])
                    self.assertEqual([type(target) for target in node.targets], [ast.Name])
            for node in file.all_of(ast.Assign):
                self.assertEqual(len(node.targets), 1)

    def test_functions(self):
        for file, node in self.each(lambda file: file.functions):
            self.assertLessEqual(node.end_lineno - node.lineno + 1, 40)
            self.assertIn([ast.unparse(item) for item in node.decorator_list], [[], ["staticmethod"]])
            arguments = node.args
            plain = [arguments.posonlyargs, arguments.kwonlyargs, arguments.defaults, arguments.vararg, arguments.kwarg]
            self.assertEqual(plain, [[], [], [], None, None])
            self.assertEqual([item for item in arguments.args if item.annotation], [])
            self.assertIsNone(node.returns)
            self.assertIn(type(file.parents[node]), [ast.Module, ast.ClassDef])
            if node.name.startswith("__"):
                self.assertIn(node.name, ["__init__", "__eq__", "__len__"])
                self.assertIsInstance(file.parents[node], ast.ClassDef)
            if node.name == "__init__":
                self.assertEqual([item for item in ast.walk(node) if isinstance(item, ast.Return)], [])
            if node.name == "__eq__":
                start = f"if not isinstance(other, {file.parents[node].name}):\n    return False"
                self.assertEqual(ast.unparse(node.body[0]), start)
            if node.name == "__len__":
                self.assertRegex(ast.unparse(node.body[-1]), r"^return len\(self\.\w+\)$")

    def test_static_methods(self):
        for file, node in self.each(lambda file: [node for node in file.functions if node.decorator_list]):
            self.assertIsInstance(file.parents[node], ast.ClassDef)
            self.assertNotIn("self", [item.arg for item in node.args.args])
            others = [other.name for row in FILES for other in row.functions if other is not node]
            stored = [other.attr for row in FILES for other in row.all_of(ast.Attribute) if isinstance(other.ctx, ast.Store)]
            self.assertNotIn(node.name, others + stored + METHODS)

    def test_classes(self):
        for file, node in self.each(lambda file: file.classes):
            self.assertIsInstance(file.parents[node], ast.Module)
            self.assertEqual([node.decorator_list, node.keywords], [[], []])
            self.assertEqual(len(node.bases), 1 if file.name == "errors.py" else 0)
            for item in node.body:
                self.assertIn(type(item), [ast.Expr, ast.FunctionDef, ast.Pass])
            methods = [item.name for item in node.body if isinstance(item, ast.FunctionDef)]
            self.assertEqual(len(methods), len(set(methods)))
            stored = [
                item.attr for item in ast.walk(node) if isinstance(item, ast.Attribute) and isinstance(item.ctx, ast.Store)
            ]
            self.assertEqual(set(stored) & set(methods), set())
            for name in methods + stored:
                self.assertNotIn(name, BARRED_ATTRIBUTES)

    def test_names(self):
        every = dir(builtins)
        for file in FILES:
            own = [node.name for node in file.classes] + [name for _, name in file.imports()] + file.outside()
            for name in file.locals():
                self.assertNotIn(name, own, file.name)
            functions = [node.name for node in file.functions if isinstance(file.parents[node], ast.Module)]
            for name in file.locals() + file.bound() + functions:
                self.assertRegex(name, r"^(_?[A-Za-z][A-Za-z0-9_]*|_)$")
                self.assertFalse(name in every or name in BARRED_NAMES, f"{file.name}: {name}")
            for node in file.all_of(ast.Name):
                self.assertFalse(node.id == "_" and isinstance(node.ctx, ast.Load))
                if isinstance(file.parents[node], ast.FunctionDef):
                    self.assertEqual(node.id, "staticmethod")
                    continue
                if node.id in every:
                    self.assertIn(node.id, BUILTINS)
                known = file.locals() + file.bound() + BUILTINS
                self.assertIn(node.id, known)

    def test_attributes(self):
        methods = {node.name for file in FILES for node in file.functions if isinstance(file.parents[node], ast.ClassDef)}
        stored = {
            node.attr for file in FILES for node in file.all_of(ast.Attribute) if isinstance(node.ctx, ast.Store)
        }
        for file, node in self.each(lambda file: file.all_of(ast.Attribute)):
            parent = file.parents[node]
            called = isinstance(parent, ast.Call) and parent.func is node
            if isinstance(node.ctx, ast.Store):
                self.assertEqual([type(node.value), node.value.id], [ast.Name, "self"])
            elif called:
                self.assertIn(node.attr, methods | set(METHODS))
                self.assertNotIn(node.attr, ["sort"])
                self.assertEqual(parent.keywords, [])
            else:
                self.assertIn(node.attr, stored)

    def test_builtins_are_called(self):
        for file, node in self.each(lambda file: file.all_of(ast.Name)):
            if node.id in BUILTINS and node.id not in ("None", "True", "False", "ValueError"):
                parent = file.parents[node]
                classes = node.id in ("int", "str", "bool", "list", "tuple", "dict")
                if classes and (isinstance(parent, ast.Tuple) or parent.func.id == "isinstance"):
                    continue
                self.assertIs(parent.func, node)
                self.assertEqual(parent.keywords, [])

    def test_iterated_at_once(self):
        for file, node in self.each(lambda file: file.all_of(ast.Call)):
            name = node.func.id if isinstance(node.func, ast.Name) else None
            view = isinstance(node.func, ast.Attribute) and node.func.attr in VIEWS
            if name not in AT_ONCE and not view:
                continue
            parent = file.parents[node]
            if isinstance(parent, ast.Call):
                self.assertIn(parent.func.id, ["list", "tuple", "sorted", "enumerate", "zip"])
            else:
                self.assertIn(type(parent), [ast.For, ast.comprehension])
                self.assertIs(parent.iter, node)

    def test_sets_stand_in_sorted_and_len(self):
        for file in FILES:
            called = [node for node in file.all_of(ast.Call) if isinstance(node.func, ast.Name) and node.func.id == "set"]
            for node in called + file.all_of(ast.SetComp):
                parent = file.parents[node]
                self.assertIsInstance(parent, ast.Call)
                self.assertIn(parent.func.id, ["sorted", "len"])

    def test_any_and_the_like_take_a_list(self):
        for file, node in self.each(lambda file: file.all_of(ast.Call)):
            if isinstance(node.func, ast.Name) and node.func.id in ("any", "all", "sum"):
                self.assertEqual(len(node.args), 1)
                self.assertIn(type(node.args[0]), [ast.ListComp, ast.Name, ast.Attribute])

    def test_stars_stand_in_zip(self):
        for file, node in self.each(lambda file: file.all_of(ast.Starred)):
            self.assertEqual([type(node.value), file.parents[node].func.id], [ast.Name, "zip"])

    def test_errors(self):
        errors = [node.name for file in FILES if file.name == "errors.py" for node in file.classes]
        for _, node in self.each(lambda file: file.all_of(ast.ExceptHandler)):
            caught = node.type.elts if isinstance(node.type, ast.Tuple) else [node.type]
            self.assertEqual([item.id for item in caught if item.id not in errors], [])
            self.assertIsNone(node.name)
        for _, node in self.each(lambda file: file.all_of(ast.Raise)):
            self.assertIn(node.exc.func.id, errors)
            self.assertEqual(node.exc.keywords, [])
            if node.cause is not None:
                self.assertIsNone(node.cause.value)
        for _, node in self.each(lambda file: file.all_of(ast.Try)):
            self.assertEqual([node.orelse, bool(node.finalbody) + len(node.handlers)], [[], 1])
            for row in node.finalbody:
                self.assertIsInstance(row, ast.Assign)
                sides = [*row.targets[0].elts, *row.value.elts]
                self.assertEqual([type(item) for item in sides if type(item) not in (ast.Attribute, ast.Name)], [])

    def test_is_only_beside_none_and_bools(self):
        for _, node in self.each(lambda file: file.all_of(ast.Compare)):
            for sign, right in zip(node.ops, node.comparators):
                if isinstance(sign, (ast.Is, ast.IsNot)):
                    self.assertTrue(isinstance(right, ast.Constant) and right.value in (None, True, False))

    def test_literals_and_words(self):
        for file in FILES:
            docstrings = file.docstrings()
            for node in file.all_of(ast.Constant):
                self.assertIn(type(node.value), [int, str, bool, type(None)])
                if isinstance(node.value, str) and node not in docstrings:
                    self.assertNotIn("%", node.value)
                    self.assertNotIn("__", node.value)
            for node in file.all_of(ast.FormattedValue):
                self.assertEqual([node.conversion, node.format_spec], [-1, None])
            for node in file.all_of(ast.Name, ast.Attribute, ast.arg):
                self.assertNotIn(getattr(node, "id", getattr(node, "attr", getattr(node, "arg", ""))), BARRED_WORDS)


if __name__ == "__main__":
    unittest.main()
