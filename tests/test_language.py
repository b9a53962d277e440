"""Rules of LANGUAGE.md for the files of the package, as far as a glance at the code can tell."""

import ast
import builtins
import pathlib
import re
import unittest

PACKAGE = pathlib.Path(__file__).resolve().parent.parent / "dealtrows"
BUILTINS = set(
    "len range enumerate zip min max sum abs sorted reversed int str bool bytes list tuple dict set frozenset isinstance"
    " ord repr any all divmod pow getattr hasattr setattr iter next map Exception ValueError TypeError KeyError IndexError"
    " LookupError ZeroDivisionError ArithmeticError OverflowError RuntimeError NotImplementedError AttributeError"
    " StopIteration NotImplemented property staticmethod classmethod super".split())
METHODS = set(
    "append clear copy count endswith extend find get index insert isalnum isalpha isdigit islower isspace isupper items"
    " join keys ljust lower lstrip partition pop remove replace reverse rfind rjust rpartition rsplit rstrip setdefault"
    " split splitlines startswith strip update upper values zfill bit_length add discard"
    " title capitalize swapcase casefold center expandtabs removeprefix removesuffix rindex isascii isdecimal isnumeric"
    " istitle isidentifier isprintable".split())
BARRED = set(
    "register mro elements open input law version_info with_traceback add_note attrgetter breakpoint builtins compile"
    " copyright credits delattr dir eval exec exit gc globals help id importlib license locals methodcaller os quit"
    " type vars sys".split())
WORDS = re.compile(
    r"\b(type|typing|typing_extensions|enum|Enum|IntEnum|StrEnum|Flag|IntFlag|Generic|Protocol|ABC|ABCMeta|namedtuple"
    r"|NamedTuple|TypedDict|TYPE_CHECKING|abstractmethod)\b|dataclass|overload|contextmanager|_wall|_WallAttr|Meta|\(type\)"
    r"|metaclass=")
TAKE_LISTS = ("any", "all", "min", "max", "sum", "sorted")
MAKERS = ("list", "tuple", "dict", "sorted", "set", "range")
WALKERS = ("range", "zip", "enumerate", "reversed")
CHANGERS = ("append", "clear", "extend", "insert", "pop", "remove", "reverse", "setdefault", "update", "add", "discard")


def sources():
    """The text and the tree of each file, by its module name."""
    found = {}
    for path in sorted(PACKAGE.rglob("*.py")):
        name = ".".join(path.relative_to(PACKAGE.parent).with_suffix("").parts)
        text = path.read_bytes().decode("utf-8")
        found[name] = (text, ast.parse(text))
    return found


SOURCES = sources()


def parents_of(tree):
    """The node above each node."""
    return {child: node for node in ast.walk(tree) for child in ast.iter_child_nodes(node)}


def bound_names(tree):
    """All names that the code binds, but for methods and attributes."""
    methods = {item for node in ast.walk(tree) if isinstance(node, ast.ClassDef) for item in node.body}
    for node in ast.walk(tree):
        if isinstance(node, ast.Name) and isinstance(node.ctx, ast.Store):
            yield node.id
        elif isinstance(node, ast.arg):
            yield node.arg
        elif isinstance(node, (ast.FunctionDef, ast.ClassDef)) and node not in methods:
            yield node.name
        elif isinstance(node, ast.alias):
            yield node.name


def name_called(node):
    """The bare name of the function that a node calls, or None."""
    return node.func.id if isinstance(node, ast.Call) and isinstance(node.func, ast.Name) else None


def is_made_there(node):
    """Whether a value is made where it stands, so that nothing else can be the same list or dict."""
    if isinstance(node, ast.IfExp):
        return is_made_there(node.body) and is_made_there(node.orelse)
    if isinstance(node, ast.BinOp):
        return is_made_there(node.left) or is_made_there(node.right)
    plain = (ast.Constant, ast.List, ast.Tuple, ast.Dict, ast.ListComp, ast.DictComp, ast.SetComp)
    return isinstance(node, plain) or name_called(node) in MAKERS


def root_of(node):
    """The name with which an item, an attribute or a call begins."""
    while isinstance(node, (ast.Subscript, ast.Attribute, ast.Call)):
        node = node.func if isinstance(node, ast.Call) else node.value
    return node.id if isinstance(node, ast.Name) else None


def roots_walked(node):
    """The names by which a loop reaches what it walks; none if that is made for the loop."""
    if is_made_there(node):
        return set()
    found = {root_of(part) for part in node.args} if isinstance(node, ast.Call) else set()
    if name_called(node) in WALKERS:
        return set().union(*[roots_walked(part) for part in node.args])
    return (found | {root_of(node)}) - {None}


def changed_in(body):
    """The lists and dicts that some statements change."""
    for node in [node for statement in body for node in ast.walk(statement)]:
        if isinstance(node, ast.Subscript) and not isinstance(node.ctx, ast.Load):
            yield node.value
        elif isinstance(node, ast.Call) and isinstance(node.func, ast.Attribute) and node.func.attr in CHANGERS:
            yield node.func.value


def values_of_names(function):
    """The values that each name of a function is assigned."""
    found = {}
    for node in ast.walk(function):
        if isinstance(node, ast.Assign):
            for target in node.targets:
                names = target.elts if isinstance(target, ast.Tuple) else [target]
                values = node.value.elts if isinstance(node.value, ast.Tuple) else [node.value] * len(names)
                for name, value in zip(names, values):
                    if isinstance(name, ast.Name):
                        found.setdefault(name.id, []).append(value)
    return found


def loops_that_change(tree):
    """The lines in loops that change what could be what the loop walks."""
    for function in [node for node in ast.walk(tree) if isinstance(node, ast.FunctionDef)]:
        told = values_of_names(function)
        # A name that is assigned another one can be the same list.
        same = [{name, value.id} for name, values in told.items() for value in values if isinstance(value, ast.Name)]
        for loop in [node for node in ast.walk(function) if isinstance(node, ast.For)]:
            walked = roots_walked(loop.iter)
            for node in changed_in(loop.body):
                name = root_of(node)
                own = name in told and all(is_made_there(value) for value in told[name])
                shared = any(name in names and names & walked for names in same)
                if walked and (name in walked or shared or not own):
                    yield node.lineno


OPERATORS = ["eq", "ne", "lt", "le", "gt", "ge", "str", "repr", "len", "bool", "iter", "contains", "getitem", "neg"]
OPERATORS.extend(["add", "sub", "and", "or", "xor"])


def functions_by_name():
    """For each name the pairs of a class, or None, and a function or method of this name."""
    found = {}
    for _, tree in SOURCES.values():
        for node in tree.body:
            if isinstance(node, ast.FunctionDef):
                found.setdefault(node.name, []).append((None, node))
            for item in node.body if isinstance(node, ast.ClassDef) else []:
                if isinstance(item, ast.FunctionDef):
                    found.setdefault(node.name if item.name == "__init__" else item.name, []).append((node.name, item))
    return found


def run_by_operators():
    """The functions that operators and properties run, as far as names tell."""
    named = functions_by_name()
    waiting = [pair for name in OPERATORS for pair in named.get(f"__{name}__", [])]
    waiting.extend(pair for pairs in named.values() for pair in pairs
                   if any(getattr(part, "id", "") == "property" for part in pair[1].decorator_list))
    found = []
    while waiting:
        pair = waiting.pop()
        if pair not in found:
            found.append(pair)
            for node in ast.walk(pair[1]):
                if isinstance(node, ast.Call):
                    name = node.func.attr if isinstance(node.func, ast.Attribute) else name_called(node)
                    waiting.extend(named.get(pair[0] if name == "cls" else name, []))
    return [function for _, function in found]


class FilesTest(unittest.TestCase):
    def test_files(self):
        self.assertLessEqual(len(SOURCES), 100)
        for path in PACKAGE.rglob("*"):
            if "__pycache__" not in path.parts:
                self.assertRegex(path.name, r"^([a-z][a-z0-9_]*|__init__|__main__)(\.py)?$")
                self.assertEqual(path.is_dir(), path.suffix == "", path)
            if path.is_dir() and path.name != "__pycache__":
                self.assertTrue((path / "__init__.py").is_file(), path)

    def test_characters_and_sizes(self):
        for name, (text, _) in SOURCES.items():
            self.assertTrue(all(character == "\n" or " " <= character <= "~" for character in text), name)
            self.assertLessEqual(len(text.splitlines()), 399, name)
            self.assertLessEqual(max(len(line) for line in text.splitlines()), 120, name)

    def test_lines_of_functions(self):
        for name, (_, tree) in SOURCES.items():
            for node in ast.walk(tree):
                if isinstance(node, ast.FunctionDef):
                    self.assertLessEqual(node.end_lineno - node.lineno + 1, 40, (name, node.name))

    def test_words(self):
        for name, (text, _) in SOURCES.items():
            self.assertIsNone(WORDS.search(text), name)


class ImportsTest(unittest.TestCase):
    def imports_of(self, tree):
        return [node for node in ast.walk(tree) if isinstance(node, (ast.Import, ast.ImportFrom))]

    def test_imports_name_the_file_that_defines(self):
        for name, (_, tree) in SOURCES.items():
            for node in self.imports_of(tree):
                self.assertIsInstance(node, ast.ImportFrom, name)
                self.assertEqual(node.level, 0, name)
                self.assertIn(node.module, SOURCES, name)
                defined = set()
                for statement in SOURCES[node.module][1].body:
                    if isinstance(statement, ast.Assign):
                        defined.add(statement.targets[0].id)
                    elif isinstance(statement, (ast.FunctionDef, ast.ClassDef)):
                        defined.add(statement.name)
                for alias in node.names:
                    self.assertIsNone(alias.asname)
                    self.assertIn(alias.name, defined, name)

    def test_imports_stand_at_the_top_and_are_used(self):
        for name, (_, tree) in SOURCES.items():
            body = tree.body[1:] if ast.get_docstring(tree) is not None else tree.body
            imports = self.imports_of(tree)
            self.assertEqual(body[:len(imports)], imports, name)
            used = {node.id for node in ast.walk(tree) if isinstance(node, ast.Name)}
            self.assertLessEqual({alias.name for node in imports for alias in node.names}, used, name)

    def test_no_import_leads_round(self):
        steps = {name: {node.module for node in self.imports_of(tree)} for name, (_, tree) in SOURCES.items()}
        while steps:
            last = [name for name in steps if not any(other in steps for other in steps[name])]
            self.assertTrue(last, steps)
            steps = {name: steps[name] for name in steps if name not in last}


class CodeTest(unittest.TestCase):
    def nodes(self, *kinds):
        for name, (_, tree) in SOURCES.items():
            for node in ast.walk(tree):
                if isinstance(node, kinds):
                    yield f"{name}:{node.lineno}", node

    def test_module_level(self):
        for name, (_, tree) in SOURCES.items():
            for node in tree.body:
                plain = isinstance(node, ast.Expr) and isinstance(node.value, ast.Constant)
                self.assertTrue(plain or isinstance(node, (
                    ast.ImportFrom, ast.Assign, ast.FunctionDef, ast.ClassDef)), (name, node.lineno))

    def test_names_are_bound_once_and_are_no_builtins(self):
        for name, (_, tree) in SOURCES.items():
            top = [node.name for node in tree.body if isinstance(node, (ast.FunctionDef, ast.ClassDef))]
            top.extend(node.targets[0].id for node in tree.body if isinstance(node, ast.Assign))
            top.extend(alias.name for node in tree.body if isinstance(node, ast.ImportFrom) for alias in node.names)
            self.assertEqual(len(top), len(set(top)), name)
            for bound in bound_names(tree):
                self.assertFalse(hasattr(builtins, bound) or bound in BARRED, (name, bound))
            imported = {alias.name for node in tree.body if isinstance(node, ast.ImportFrom) for alias in node.names}
            classes = {node.name for node in tree.body if isinstance(node, ast.ClassDef)}
            for node in ast.walk(tree):
                if isinstance(node, ast.arg) or isinstance(node, ast.Name) and isinstance(node.ctx, ast.Store):
                    self.assertNotIn(node.arg if isinstance(node, ast.arg) else node.id, imported | classes, name)

    def test_builtins(self):
        for at, node in self.nodes(ast.Name):
            if hasattr(builtins, node.id):
                self.assertIn(node.id, BUILTINS, at)

    def test_methods(self):
        own = {node.name for _, node in self.nodes(ast.FunctionDef)}
        for at, node in self.nodes(ast.Call):
            if isinstance(node.func, ast.Attribute):
                self.assertIn(node.func.attr, METHODS | own, at)

    def test_statements_that_are_not_allowed(self):
        for name, (_, tree) in SOURCES.items():
            barred = (ast.Global, ast.AsyncFunctionDef, ast.AsyncFor, ast.AsyncWith, ast.Await, ast.Div)
            self.assertFalse([node for node in ast.walk(tree) if isinstance(node, barred)], name)
        for at, node in self.nodes(ast.Constant):
            self.assertNotIsInstance(node.value, (float, complex), at)
            self.assertFalse(isinstance(node.value, str) and "%" in node.value, at)

    def test_decorators(self):
        for at, node in self.nodes(ast.FunctionDef, ast.ClassDef):
            for decorator in node.decorator_list:
                allowed = isinstance(decorator, ast.Name) and decorator.id in ("property", "staticmethod", "classmethod")
                self.assertTrue(allowed or isinstance(decorator, ast.Attribute) and decorator.attr == "setter", at)

    def test_lists_instead_of_generator_expressions(self):
        # The package has classes with __eq__ and with operators.
        for at, node in self.nodes(ast.Call):
            if isinstance(node.func, ast.Name) and node.func.id in TAKE_LISTS:
                self.assertFalse([part for part in node.args if isinstance(part, ast.GeneratorExp)], at)

    def test_no_sort_of_lists(self):
        for at, node in self.nodes(ast.Attribute):
            self.assertNotEqual(node.attr, "sort", at)

    def test_sets_are_sorted_or_measured_at_once(self):
        for name, (_, tree) in SOURCES.items():
            above = parents_of(tree)
            for node in ast.walk(tree):
                made = isinstance(node, ast.Call) and isinstance(node.func, ast.Name) and node.func.id == "set"
                if made or isinstance(node, (ast.Set, ast.SetComp)):
                    call = above[node]
                    self.assertIsInstance(call, ast.Call, (name, node.lineno))
                    self.assertIn(call.func.id, ("sorted", "len"), (name, node.lineno))

    def test_no_range_zip_or_view_is_kept(self):
        for at, node in self.nodes(ast.Assign):
            self.assertNotIn(name_called(node.value), WALKERS, at)
            if isinstance(node.value, ast.Call) and isinstance(node.value.func, ast.Attribute):
                self.assertNotIn(node.value.func.attr, ("items", "keys", "values"), at)

    def test_loops_change_nothing_that_they_could_walk(self):
        for name, (_, tree) in SOURCES.items():
            self.assertEqual(list(loops_that_change(tree)), [], name)

    def test_loops_that_are_told_apart(self):
        wrong = ("for a in self.x[k]:\n  self.y[a].append(1)", "for a in f(b):\n  b.append(a)",
                 "c = []\n for a in b:\n  c.append(a)\n b = c", "r = q.rows\n for a in zip(self.x, b):\n  r[a] = 1",
                 "for a in self.x:\n  del self.y[a]")
        right = ("c = []\n for a in b:\n  c.append(a)", "for a in list(self.x):\n  self.y[a] = 1",
                 "for a in range(3):\n  self.y.append(a)")
        for text in wrong:
            self.assertTrue(list(loops_that_change(ast.parse(f"def f(self, b, q, k):\n {text}"))), text)
        for text in right:
            self.assertFalse(list(loops_that_change(ast.parse(f"def f(self, b):\n {text}"))), text)

    def test_operators_and_properties_add_to_nothing(self):
        # Stores have += and -=, so that these could change what an operator is passed.
        for function in run_by_operators():
            for node in ast.walk(function):
                self.assertNotIsInstance(node, ast.AugAssign, function.name)

    def test_operators_and_properties_store_nothing_that_they_did_not_make(self):
        # What is kept when it is first asked for is asked for by plain methods and functions alone.
        for function in run_by_operators():
            told = values_of_names(function)
            for node in ast.walk(function):
                if isinstance(node, ast.Attribute) and not isinstance(node.ctx, ast.Load):
                    self.assertEqual(function.name, "__init__", node.attr)
                if isinstance(node, ast.Subscript) and not isinstance(node.ctx, ast.Load):
                    self.assertTrue(all(is_made_there(value) for value in told[root_of(node)]), function.name)

    def test_ends_of_blocks_only_assign(self):
        plain = (ast.Name, ast.Attribute, ast.Constant, ast.Compare, ast.Load, ast.Store, ast.Is, ast.IsNot)
        for at, node in self.nodes(ast.FunctionDef):
            if node.name == "__exit__":
                for part in [part for statement in node.body for part in ast.walk(statement)]:
                    self.assertIsInstance(part, (ast.Assign, ast.If, *plain), at)
                    if isinstance(part, ast.Compare):
                        self.assertIsNone(part.comparators[0].value, at)
                    if isinstance(part, ast.Name):
                        self.assertNotIn(part.id, ("value", "trace"), at)

    def test_stars_in_calls_stand_before_names(self):
        for at, node in self.nodes(ast.Call):
            for part in node.args:
                if isinstance(part, ast.Starred):
                    self.assertIsInstance(part.value, (ast.Name, ast.Attribute), at)

    def test_generators_are_iterated_at_once(self):
        yielding = [node.name for _, node in self.nodes(ast.FunctionDef)
                    if any(isinstance(part, (ast.Yield, ast.YieldFrom)) for part in ast.walk(node))]
        for name, (_, tree) in SOURCES.items():
            above = parents_of(tree)
            for node in ast.walk(tree):
                called = getattr(node.func, "attr", name_called(node)) if isinstance(node, ast.Call) else None
                if called in yielding:
                    walks = isinstance(above[node], (ast.For, ast.comprehension)) and above[node].iter is node
                    walks = walks or isinstance(above[node], ast.YieldFrom)
                    self.assertTrue(walks or name_called(above[node]) in (*MAKERS, "enumerate", "zip"), (name, node.lineno))
                    for part in [part for part in node.args if not isinstance(part, ast.Lambda)]:
                        self.assertFalse([one for one in ast.walk(part) if isinstance(one, ast.Call)], (name, node.lineno))

    def test_inner_comprehensions_have_names_of_their_own(self):
        comprehensions = (ast.ListComp, ast.SetComp, ast.DictComp, ast.GeneratorExp)
        for name, (_, tree) in SOURCES.items():
            above = parents_of(tree)
            for node in [node for node in ast.walk(tree) if isinstance(node, comprehensions)]:
                bound = {part.id for told in node.generators for part in ast.walk(told.target) if isinstance(part, ast.Name)}
                around, outer = above[node], set()
                while not isinstance(around, ast.FunctionDef):
                    if isinstance(around, comprehensions):
                        outer |= {part.id for told in around.generators for part in ast.walk(told.target)
                                  if isinstance(part, ast.Name)}
                    if isinstance(around, ast.Lambda):
                        outer |= {part.arg for part in around.args.args}
                    around = above[around]
                if outer:
                    outer |= set(values_of_names(around)) | {part.arg for part in ast.walk(around) if isinstance(part, ast.arg)}
                    self.assertFalse(bound & outer - {"_"}, (name, node.lineno))

    def test_is_stands_beside_plain_values(self):
        for at, node in self.nodes(ast.Compare):
            if isinstance(node.ops[0], (ast.Is, ast.IsNot)):
                self.assertIsInstance(node.comparators[0], ast.Constant, at)

    def test_texts_and_lengths(self):
        for at, node in self.nodes(ast.FunctionDef):
            if node.name in ("__len__", "__str__", "__repr__"):
                body = node.body[1:] if ast.get_docstring(node) is not None else node.body
                self.assertEqual([statement.__class__ for statement in body], [ast.Return], at)

    def test_generators_have_names_of_their_own(self):
        yielding = [node.name for _, node in self.nodes(ast.FunctionDef)
                    if any(isinstance(part, (ast.Yield, ast.YieldFrom)) for part in ast.walk(node))]
        names = [node.name for _, node in self.nodes(ast.FunctionDef)]
        for name in yielding:
            self.assertEqual(names.count(name), 1, name)

    def test_classes_with_an_index_tell_whether_they_are_iterated_over(self):
        for at, node in self.nodes(ast.ClassDef):
            names = [item.name for item in node.body if isinstance(item, ast.FunctionDef)]
            self.assertTrue("__getitem__" not in names or "__iter__" in names, at)
            self.assertNotIn("keys", names, at)

    def test_properties_have_names_of_their_own(self):
        plain, read = set(), set()
        for _, node in self.nodes(ast.ClassDef):
            for item in node.body:
                if isinstance(item, ast.FunctionDef):
                    named = [getattr(part, "id", "property") for part in item.decorator_list]
                    (read if "property" in named else plain).add(item.name)
        stored = {node.attr for _, node in self.nodes(ast.Attribute) if isinstance(node.ctx, ast.Store)}
        self.assertFalse(read & plain)
        self.assertFalse(read & METHODS)
        self.assertFalse(read & stored)
        self.assertFalse(plain & stored)

    def test_attributes_are_not_called_like_methods_of_builtin_values(self):
        # What operators run may call these methods, and nothing that an object holds.
        stored = {node.attr for _, node in self.nodes(ast.Attribute) if isinstance(node.ctx, ast.Store)}
        methods = {name for kind in (int, str, bytes, list, tuple, dict, set, frozenset) for name in dir(kind)}
        self.assertFalse(stored & (METHODS | methods))

    def test_operators_and_properties_call_nothing_that_objects_hold(self):
        stored = {node.attr for _, node in self.nodes(ast.Attribute) if isinstance(node.ctx, ast.Store)}
        for function in run_by_operators():
            passed = {part.arg for part in ast.walk(function.args) if isinstance(part, ast.arg)} - {"cls"}
            kept = passed | set(values_of_names(function))
            for node in [node for node in ast.walk(function) if isinstance(node, ast.Call)]:
                self.assertNotIn(getattr(node.func, "attr", None), stored, function.name)
                self.assertNotIn(name_called(node), kept, function.name)

    def test_reversed_takes_what_is_made_there(self):
        for at, node in self.nodes(ast.Call):
            if name_called(node) == "reversed":
                self.assertIn(name_called(node.args[0]), ("list", "tuple", "sorted", "range"), at)


if __name__ == "__main__":
    unittest.main()
