"""LANGUAGE.md, as far as the files themselves show it: what each file of the package keeps to."""

import ast
import builtins
import os
import re
import unittest

HERE = os.path.dirname(os.path.dirname(os.path.abspath(__file__)))
PACKAGE = os.path.join(HERE, "assentwhole")

BUILTINS = set(
    "len range enumerate zip min max sum abs sorted reversed int str bool bytes list tuple dict set isinstance "
    "ord repr any all divmod map iter next super Exception ValueError TypeError KeyError IndexError LookupError "
    "ZeroDivisionError".split()
)
METHODS = set(
    "append clear copy count endswith extend find get index insert isalnum isalpha isdigit islower isspace isupper "
    "items join keys ljust lower lstrip partition pop remove replace reverse rfind rjust rpartition rsplit rstrip "
    "setdefault split splitlines startswith strip update upper values zfill bit_length add discard".split()
)
BARRED_NAMES = set(
    "mro elements open input law version_info with_traceback add_note register attrgetter breakpoint builtins "
    "compile copyright credits delattr dir eval exec exit gc getattr globals hasattr help id importlib license "
    "locals methodcaller os quit setattr super type vars sys".split()
)
BARRED_ATTRIBUTES = set(
    "items keys values pop update append clear extend insert remove reverse setdefault sort args encode decode hex "
    "fromhex format mro elements open input law version_info".split()
)
BARRED_WORDS = re.compile(
    r"\b(type|typing|typing_extensions|enum|Enum|IntEnum|StrEnum|Flag|IntFlag|Generic|Protocol|ABC|ABCMeta|"
    r"namedtuple|NamedTuple|TypedDict|TYPE_CHECKING|abstractmethod)\b|dataclass|overload|contextmanager"
)
BARRED_NODES = (
    ast.Global, ast.AsyncFunctionDef, ast.AsyncFor, ast.AsyncWith, ast.Await, ast.Yield, ast.YieldFrom, ast.Div,
    ast.MatMult, ast.NamedExpr, ast.With, ast.Match, ast.AnnAssign,
)


def package_files():
    return sorted(name for name in os.listdir(PACKAGE) if name != "__pycache__")


def read(name):
    with open(os.path.join(PACKAGE, name), encoding="utf-8") as file:
        return file.read()


TREES = {name: ast.parse(read(name)) for name in package_files()}


def nodes(kind):
    for name, tree in TREES.items():
        for node in ast.walk(tree):
            if isinstance(node, kind):
                yield name, node


def docstrings(tree):
    found = set()
    for node in ast.walk(tree):
        if isinstance(node, (ast.Module, ast.FunctionDef, ast.ClassDef)) and ast.get_docstring(node) is not None:
            found.add(id(node.body[0].value))
    return found


def bound_in(function):
    """Names that a function binds: parameters and whatever it stores."""
    names = {arg.arg for arg in ast.walk(function) if isinstance(arg, ast.arg)}
    names |= {n.id for n in ast.walk(function) if isinstance(n, ast.Name) and not isinstance(n.ctx, ast.Load)}
    return names


class FileTests(unittest.TestCase):
    def test_files(self):
        self.assertLessEqual(len(TREES), 100)
        for name in TREES:
            self.assertRegex(name, r"^(__init__|[a-z][a-z0-9_]*)\.py$")
            self.assertNotIn(name[:-3], set(dir(builtins)) | BARRED_NAMES)

    def test_characters_and_lines(self):
        for name in TREES:
            text = read(name)
            self.assertRegex(text, r"\A[ -~\n]*\Z", name)
            lines = text.split("\n")
            self.assertLessEqual(len(lines), 399, name)
            self.assertLessEqual(max(len(line) for line in lines), 120, name)
            self.assertFalse([line for line in lines if line != line.rstrip()], name)

    def test_size_of_functions(self):
        for name, node in nodes(ast.FunctionDef):
            self.assertLessEqual(node.end_lineno - node.lineno + 1, 40, (name, node.name))

    def test_each_has_a_docstring(self):
        for name, tree in TREES.items():
            self.assertIsNotNone(ast.get_docstring(tree), name)
        for name, node in nodes((ast.FunctionDef, ast.ClassDef)):
            if node.name != "__init__":
                self.assertIsNotNone(ast.get_docstring(node), (name, node.name))


class ImportTests(unittest.TestCase):
    def test_form(self):
        for name, node in nodes(ast.Import):
            self.fail((name, node.lineno))
        for name, node in nodes(ast.ImportFrom):
            self.assertEqual(node.level, 0)
            self.assertTrue(node.module.startswith("assentwhole."), (name, node.module))
            self.assertIn(node, TREES[name].body)
            for alias in node.names:
                self.assertIsNone(alias.asname)
                there = TREES[node.module.split(".")[1] + ".py"]
                defined = {n.name for n in there.body if isinstance(n, (ast.FunctionDef, ast.ClassDef))}
                defined |= {n.targets[0].id for n in there.body if isinstance(n, ast.Assign)}
                self.assertIn(alias.name, defined, (name, alias.name))

    def test_used(self):
        for name, tree in TREES.items():
            used = {node.id for node in ast.walk(tree) if isinstance(node, ast.Name)}
            for node in tree.body:
                if isinstance(node, ast.ImportFrom):
                    self.assertLessEqual({alias.name for alias in node.names}, used, name)

    def test_no_circles(self):
        needs = {name: set() for name in TREES}
        for name, node in nodes(ast.ImportFrom):
            needs[name].add(node.module.split(".")[1] + ".py")
        while needs:
            free = [name for name in needs if not needs[name] & set(needs)]
            self.assertTrue(free, "files import from each other: " + ", ".join(needs))
            for name in free:
                del needs[name]

    def check_value(self, value, seen, name):
        """Plain values, or a dict from plain values to functions that stand above."""
        if isinstance(value, ast.Dict) and all(isinstance(part, ast.Name) for part in value.values):
            for key, part in zip(value.keys, value.values):
                ast.literal_eval(key)
                self.assertIn(part.id, seen, name)
        else:
            ast.literal_eval(value)

    def test_what_stands_at_module_level(self):
        for name, tree in TREES.items():
            seen = []
            for at, node in enumerate(tree.body):
                if isinstance(node, ast.Expr):
                    self.assertEqual(at, 0, name)
                    continue
                self.assertIsInstance(node, (ast.ImportFrom, ast.FunctionDef, ast.ClassDef, ast.Assign), name)
                if isinstance(node, ast.ImportFrom):
                    seen += [alias.name for alias in node.names]
                elif isinstance(node, ast.Assign):
                    self.assertEqual(len(node.targets), 1)
                    self.check_value(node.value, seen, name)
                    seen.append(node.targets[0].id)
                else:
                    seen.append(node.name)
            self.assertEqual(len(seen), len(set(seen)), name)


class NameTests(unittest.TestCase):
    def test_names(self):
        every = {(name, node.id) for name, node in nodes(ast.Name) if not isinstance(node.ctx, ast.Load)}
        every |= {(name, node.arg) for name, node in nodes(ast.arg)}
        every |= {(name, node.name) for name, node in nodes((ast.FunctionDef, ast.ClassDef))}
        for name, word in every:
            if word == "__init__" or word == "_":
                continue
            self.assertRegex(word, r"^_?[A-Za-z][A-Za-z0-9_]*$", name)
            self.assertNotIn(word, set(dir(builtins)) | BARRED_NAMES, name)
            self.assertNotRegex(word, r"^_wall|^_pe_|^_law_|^_cold|^_outside|^_record|^f_|^tb_|^co_")

    def test_locals_have_no_name_of_an_import_or_a_class_or_a_function(self):
        for name, tree in TREES.items():
            taken = {alias.name for node in tree.body if isinstance(node, ast.ImportFrom) for alias in node.names}
            taken |= {node.name for node in tree.body if isinstance(node, (ast.ClassDef, ast.FunctionDef))}
            for node in ast.walk(tree):
                if isinstance(node, ast.FunctionDef):
                    self.assertFalse(bound_in(node) & taken, (name, node.name))

    def test_underscore_is_never_read(self):
        for name, node in nodes(ast.Name):
            if node.id == "_":
                self.assertIsInstance(node.ctx, ast.Store, name)

    @staticmethod
    def is_super_init(node):
        """Whether node is super().__init__."""
        if not isinstance(node, ast.Attribute) or node.attr != "__init__" or not isinstance(node.value, ast.Call):
            return False
        return isinstance(node.value.func, ast.Name) and node.value.func.id == "super" and not node.value.args

    def test_super_stands_in_init_alone(self):
        fine = set()
        for name, node in nodes(ast.FunctionDef):
            if node.name == "__init__":
                fine |= {id(part.value.func) for part in ast.walk(node) if self.is_super_init(part)}
        for name, node in nodes(ast.Name):
            if node.id == "super":
                self.assertIn(id(node), fine, name)

    def test_a_name_is_not_a_method_and_an_attribute_in_a_family(self):
        classes = {node.name: node for _, node in nodes(ast.ClassDef)}
        for node in classes.values():
            family = [node] + [classes[base.id] for base in node.bases if base.id in classes]
            methods = {part.name for one in family for part in one.body if isinstance(part, ast.FunctionDef)}
            stored = {
                part.attr for one in family for part in ast.walk(one)
                if isinstance(part, ast.Attribute) and isinstance(part.ctx, ast.Store)
            }
            self.assertFalse(methods & stored, node.name)

    def test_lambdas(self):
        lines = [(name, node.lineno) for name, node in nodes(ast.Lambda)]
        self.assertEqual(len(lines), len(set(lines)))
        for name, node in nodes(ast.Lambda):
            self.assertFalse(node.args.defaults, name)

    def test_tables_are_only_read(self):
        # A list or dict at module level is not passed on; what it has is given a name before it is called.
        for name, tree in TREES.items():
            tables = {
                node.targets[0].id for node in tree.body
                if isinstance(node, ast.Assign) and isinstance(node.value, (ast.Dict, ast.List))
            }
            fine = set()
            for node in ast.walk(tree):
                if isinstance(node, ast.Subscript) and isinstance(node.ctx, ast.Load):
                    fine.add(id(node.value))
                if isinstance(node, ast.Attribute) and node.attr in ("get", "index", "items"):
                    fine.add(id(node.value))
                if isinstance(node, ast.Compare):
                    fine |= {id(part) for part in node.comparators}
                if isinstance(node, ast.Call):
                    self.assertNotIsInstance(node.func, ast.Subscript, (name, node.lineno))
            for node in ast.walk(tree):
                if isinstance(node, ast.Name) and node.id in tables and isinstance(node.ctx, ast.Load):
                    self.assertIn(id(node), fine, (name, node.lineno))

    def test_what_a_loop_goes_over_is_not_changed_in_it(self):
        growers = ("append", "extend", "insert", "pop", "remove", "clear", "update", "setdefault")
        for name, node in nodes(ast.For):
            if not isinstance(node.iter, (ast.Name, ast.Attribute)):
                continue
            told = ast.dump(node.iter)
            for part in ast.walk(node):
                if isinstance(part, ast.Attribute) and part.attr in growers:
                    self.assertNotEqual(ast.dump(part.value), told, (name, node.lineno))

    def test_attributes(self):
        written = {}
        above = {id(call.func) for _, call in nodes(ast.Call) if self.is_super_init(call.func)}
        for name, node in nodes(ast.Attribute):
            if id(node) in above:
                continue
            self.assertNotRegex(node.attr, r"^__", name)
            if isinstance(node.ctx, ast.Store):
                self.assertNotIn(node.attr, BARRED_ATTRIBUTES, name)
                written[node.attr] = name
        methods = {
            part.name
            for _, node in nodes(ast.ClassDef)
            for part in node.body
            if isinstance(part, ast.FunctionDef) and part.name != "__init__"
        }
        for name, node in nodes(ast.ClassDef):
            own = {part.name for part in node.body if isinstance(part, ast.FunctionDef)}
            stored = {
                a.attr for a in ast.walk(node) if isinstance(a, ast.Attribute) and isinstance(a.ctx, ast.Store)
            }
            self.assertFalse(own & stored, (name, node.name))
        self.assertFalse(methods & METHODS)
        for name, node in nodes(ast.Attribute):
            if id(node) not in above:
                self.assertIn(node.attr, set(written) | methods | METHODS, (name, node.lineno))


class ValueTests(unittest.TestCase):
    def test_no_other_statements_and_signs(self):
        for name, node in nodes(BARRED_NODES):
            self.fail((name, getattr(node, "lineno", 0), node))

    def test_decorators_defaults_and_annotations(self):
        for name, node in nodes((ast.FunctionDef, ast.ClassDef)):
            self.assertEqual(node.decorator_list, [], name)
            if isinstance(node, ast.FunctionDef):
                self.assertIsNone(node.returns, name)
                self.assertEqual(node.args.kw_defaults, [])
                self.assertFalse([arg for arg in node.args.args if arg.annotation is not None])

    def test_only_some_double_underscore_methods(self):
        for name, node in nodes(ast.FunctionDef):
            if node.name.startswith("__"):
                self.assertEqual(node.name, "__init__", name)
                self.assertFalse([part for part in ast.walk(node) if isinstance(part, ast.Return)])

    def test_constants(self):
        for name, tree in TREES.items():
            told = docstrings(tree)
            for node in ast.walk(tree):
                if not isinstance(node, ast.Constant):
                    continue
                self.assertNotIsInstance(node.value, (float, complex, bytes), name)
                if isinstance(node.value, str) and id(node) not in told:
                    self.assertNotIn("%", node.value, name)
                    self.assertIsNone(BARRED_WORDS.search(node.value), (name, node.value))
                    self.assertNotRegex(node.value, r"\._$|\.__$|^__.*__$", name)

    def test_barred_words(self):
        for name, tree in TREES.items():
            for node in ast.walk(tree):
                for word in (getattr(node, "id", None), getattr(node, "attr", None), getattr(node, "arg", None)):
                    if isinstance(word, str):
                        self.assertIsNone(BARRED_WORDS.search(word), (name, word))

    def test_is(self):
        for name, node in nodes(ast.Compare):
            for sign, right in zip(node.ops, node.comparators):
                if isinstance(sign, (ast.Is, ast.IsNot)):
                    self.assertIsInstance(right, ast.Constant, (name, node.lineno))
                    self.assertIn(right.value, (None, True, False))

    def test_powers_and_generator_expressions(self):
        for name, node in nodes(ast.BinOp):
            self.assertNotIsInstance(node.op, ast.Pow, (name, node.lineno))
        callers = set("list tuple dict sorted sum min max any all".split())
        for name, tree in TREES.items():
            told = set()
            for node in ast.walk(tree):
                if isinstance(node, ast.Call) and isinstance(node.func, ast.Name) and node.func.id in callers:
                    told |= {id(arg) for arg in node.args}
                    self.assertEqual(len(node.args) == 1 or node.func.id in ("min", "max"), True, (name, node.lineno))
            for node in ast.walk(tree):
                if isinstance(node, ast.GeneratorExp):
                    self.assertIn(id(node), told, (name, node.lineno))

    def test_sets_stand_in_sorted_or_len(self):
        for name, tree in TREES.items():
            told = set()
            for node in ast.walk(tree):
                if isinstance(node, ast.Call) and isinstance(node.func, ast.Name) and node.func.id in ("sorted", "len"):
                    told |= {id(arg) for arg in node.args}
            for node in ast.walk(tree):
                made = isinstance(node, (ast.Set, ast.SetComp))
                made = made or isinstance(node, ast.Call) and getattr(node.func, "id", "") in ("set", "frozenset")
                if made:
                    self.assertIn(id(node), told, (name, node.lineno))


class CallTests(unittest.TestCase):
    def test_builtins_and_methods(self):
        for name, tree in TREES.items():
            known = {alias.name for node in tree.body if isinstance(node, ast.ImportFrom) for alias in node.names}
            known |= {node.name for node in tree.body if isinstance(node, (ast.ClassDef, ast.FunctionDef))}
            for function in [node for node in ast.walk(tree) if isinstance(node, ast.FunctionDef)]:
                here = known | bound_in(function)
                for node in ast.walk(function):
                    if isinstance(node, ast.Call) and isinstance(node.func, ast.Name) and node.func.id not in here:
                        self.assertIn(node.func.id, BUILTINS, (name, node.lineno))

    def test_iterated_at_once(self):
        lazy = ("zip", "enumerate", "reversed", "range", "map")
        takers = set("list tuple dict sorted sum any all min max enumerate zip".split())
        for name, tree in TREES.items():
            fine = set()
            for node in ast.walk(tree):
                if isinstance(node, (ast.For, ast.comprehension)):
                    fine.add(id(node.iter))
                if isinstance(node, ast.Call) and getattr(node.func, "id", "") in takers:
                    fine |= {id(arg) for arg in node.args}
            for node in ast.walk(tree):
                if isinstance(node, ast.Call) and getattr(node.func, "id", "") in lazy:
                    self.assertIn(id(node), fine, (name, node.lineno))
                if isinstance(node, ast.Call) and getattr(node.func, "attr", "") in ("items", "keys", "values"):
                    self.assertIn(id(node), fine, (name, node.lineno))

    def test_keywords(self):
        for name, node in nodes(ast.Call):
            if isinstance(node.func, ast.Name) and node.func.id in BUILTINS:
                for keyword in node.keywords:
                    self.assertIn(keyword.arg, ("key", "reverse", "default", "start", "strict"), (name, node.lineno))

    def test_own_errors_alone_are_caught(self):
        own = {node.name for node in TREES["errors.py"].body if isinstance(node, ast.ClassDef)}
        for name, node in nodes(ast.Try):
            self.assertFalse(node.finalbody, (name, node.lineno))
            for handler in node.handlers:
                self.assertIsInstance(handler.type, ast.Name, (name, node.lineno))
                self.assertIn(handler.type.id, own, (name, node.lineno))
                self.assertIsNone(handler.name)

    def test_raise_creates_its_error(self):
        for name, node in nodes(ast.Raise):
            self.assertIsInstance(node.exc, ast.Call, (name, node.lineno))
            self.assertIsInstance(node.exc.func, ast.Name)


if __name__ == "__main__":
    unittest.main()
