"""The package keeps to the small part of Python that it is to be written in, as far as a test sees it.

Each test names the rules that it looks at. Where a rule allows more than the package makes use of,
the lists below hold what it makes use of: who needs more reads the rule and adds it here.
"""

import ast
import builtins
import os
import re
import unittest

PLACE = os.path.join(os.path.dirname(os.path.dirname(os.path.abspath(__file__))), "nearhours")

NODES = set("""
    Module FunctionDef ClassDef Return Assign For While If Raise Expr Pass Break Continue BoolOp BinOp UnaryOp
    Lambda IfExp Dict SetComp ListComp DictComp Compare Call JoinedStr FormattedValue Constant Attribute
    Subscript Starred Name List Tuple Slice Load Store And Or Add Sub Mult FloorDiv Mod Not USub Eq NotEq Lt
    LtE Gt GtE Is IsNot In NotIn comprehension arguments arg keyword ImportFrom alias Try ExceptHandler AugAssign
""".split())
BUILTINS = set("""
    len range enumerate zip min max sum abs sorted reversed int str bool list tuple dict set isinstance repr any
    all divmod ValueError iter
""".split())
METHODS = set("""
    append clear copy count endswith extend find get index insert isalnum isalpha isdigit islower isspace isupper
    items join keys ljust lower lstrip partition pop remove replace reverse rfind rjust rpartition rsplit rstrip
    setdefault split splitlines startswith strip update upper values zfill bit_length isascii add
""".split())
DUNDERS = set("""
    __init__ __eq__ __repr__ __str__ __len__ __call__ __iter__ __lt__ __add__ __sub__ __or__ __xor__ __contains__
    __getitem__
""".split())
CHANGING = set("""
    append clear extend insert pop remove reverse setdefault sort update add discard
""".split())
BARRED = set("""
    register mro elements open input law version_info with_traceback add_note attrgetter breakpoint builtins
    compile copyright credits delattr dir eval exec exit gc getattr globals hasattr help id importlib license
    locals methodcaller os quit setattr super type vars sys _cold _tuplegetter _outside _record _written_out
    _member_names
""".split())
WORDS = set("""
    typing typing_extensions enum Enum IntEnum StrEnum Flag IntFlag Generic Protocol ABC ABCMeta namedtuple
    NamedTuple TypedDict TYPE_CHECKING abstractmethod _wall _WallAttr
""".split())
ATTRIBUTES = set("""
    items keys values pop update append clear extend insert remove reverse setdefault sort args encode decode hex
    fromhex format format_map mro as_integer_ratio bit_count conjugate from_bytes is_integer to_bytes
""".split())
KEYWORDS = {"sorted": {"key", "reverse"}, "min": {"default", "key"}, "max": {"default", "key"},
            "sum": {"start"}, "enumerate": {"start"}, "zip": {"strict"}}
PASSING = {"range", "zip", "enumerate", "reversed", "items", "keys", "values"}
TAKERS = {"list", "tuple", "dict", "sorted", "sum", "any", "all", "enumerate", "zip", "min", "max"}


def read_files():
    """The text of each file of the package, by its name without the ending."""
    texts = {}
    for name in sorted(os.listdir(PLACE)):
        if name != "__pycache__":
            with open(os.path.join(PLACE, name), encoding="utf-8", newline="") as file:
                texts[name] = file.read()
    return texts


TEXTS = read_files()
TREES = {name[:-3]: ast.parse(text) for name, text in TEXTS.items() if name.endswith(".py")}


def with_parents(tree):
    """Each node of the tree with the one above it."""
    return [(below, node) for node in ast.walk(tree) for below in ast.iter_child_nodes(node)]


def called(node):
    """The name by which something is called, None if it is no call."""
    if not isinstance(node, ast.Call):
        return None
    return node.func.id if isinstance(node.func, ast.Name) else getattr(node.func, "attr", None)


def bound_names(tree):
    """All names that are bound anywhere but by imports."""
    names = set()
    for node in ast.walk(tree):
        if isinstance(node, ast.Name) and not isinstance(node.ctx, ast.Load):
            names.add(node.id)
        elif isinstance(node, ast.arg):
            names.add(node.arg)
        elif isinstance(node, (ast.FunctionDef, ast.ClassDef)):
            names.add(node.name)
    return names


def top_names(tree):
    """The functions, classes and values that a file defines at its top."""
    names = {row.name for row in tree.body if isinstance(row, (ast.FunctionDef, ast.ClassDef))}
    return names | {row.targets[0].id for row in tree.body if isinstance(row, ast.Assign)}


def imports_of(tree):
    return [row for row in ast.walk(tree) if isinstance(row, (ast.Import, ast.ImportFrom))]


def methods_of(tree):
    rows = [row for top in tree.body if isinstance(top, ast.ClassDef) for row in top.body]
    return {row.name: row for row in rows if isinstance(row, ast.FunctionDef)}


def class_values(tree):
    """The names that the classes of a file give values to in their bodies."""
    rows = [row for top in tree.body if isinstance(top, ast.ClassDef) for row in top.body]
    return {row.targets[0].id for row in rows if isinstance(row, ast.Assign)}


def all_functions():
    """All functions and methods of the package, by name, and the __init__ of each class by its name."""
    found = {}
    for tree in TREES.values():
        for top in tree.body:
            for row in top.body if isinstance(top, ast.ClassDef) else [top]:
                if isinstance(row, ast.FunctionDef):
                    is_made = isinstance(top, ast.ClassDef) and row.name == "__init__"
                    found.setdefault(top.name if is_made else row.name, []).append(row)
    return found


def still_ones():
    """The properties and operators, the methods like them, and all functions and methods that these call."""
    known = all_functions()
    queue = [row for rows in known.values() for row in rows
             if row.name.startswith("__") and row.name not in ("__init__", "__call__")
             or "property" in [one.id for one in row.decorator_list]]
    for row in queue:
        names = {called(node) for node in ast.walk(row)}
        # A property is run when it is read.
        names |= {node.attr for node in ast.walk(row) if isinstance(node, ast.Attribute)}
        for name in names & set(known):
            queue.extend(one for one in known[name] if one not in queue)
    return queue


def own_names(row):
    """The local names of a function that are assigned nothing but lists and dicts that it creates itself."""
    makers = (ast.List, ast.ListComp, ast.Dict)
    told = {}
    for node in ast.walk(row):
        targets = node.targets if isinstance(node, ast.Assign) else []
        for target in targets:
            if isinstance(target, ast.Name):
                fine = isinstance(node.value, makers) or called(node.value) in ("list", "dict", "sorted")
                told.setdefault(target.id, []).append(fine)
    return {name for name, fine in told.items() if all(fine)}


class Language(unittest.TestCase):
    def each_node(self):
        for name, tree in TREES.items():
            for node in ast.walk(tree):
                yield f"{name}:{getattr(node, 'lineno', 0)}", node

    def test_files(self):
        """L1, L10, L14, L12."""
        self.assertLessEqual(len(TEXTS), 100)
        for name, text in TEXTS.items():
            self.assertRegex(name, r"^[a-z_][a-z0-9_]*\.py$")
            self.assertRegex(text, r"\A[ -~\n]*\Z")
            self.assertNotRegex(name, r"^(test|law_|site|conftest)")
            self.assertNotIn(name[:-3], set(dir(builtins)) | BARRED)
            lines = text.split("\n")
            self.assertLessEqual(len(lines) - 1, 399)
            self.assertLessEqual(max(map(len, lines)), 120)
            self.assertFalse(re.search(r"_wall|_WallAttr|dataclass|overload|contextmanager|\(type\)|Meta|metaclass=",
                                       text), name)

    def test_nodes(self):
        """L6, L7: what the package makes use of at all."""
        for place, node in self.each_node():
            self.assertIn(type(node).__name__, NODES, place)
            if isinstance(node, ast.FunctionDef):
                self.assertLessEqual(node.end_lineno - node.lineno + 1, 40, place)
                self.assertIsNone(node.returns, place)
            if isinstance(node, ast.comprehension):
                self.assertFalse(node.is_async, place)

    def test_imports(self):
        """L2, L16: from the file that defines a name, at the top, in no circle."""
        before = {}
        for name, tree in TREES.items():
            before[name] = set()
            for row in imports_of(tree):
                self.assertIn(row, tree.body)
                self.assertEqual(row.level, 0)
                told = [alias.name for alias in row.names]
                self.assertEqual([alias.asname for alias in row.names], [None] * len(told))
                if row.module == "math":
                    self.assertEqual(told, ["gcd"])
                    continue
                package, module = row.module.split(".")
                self.assertEqual(package, "nearhours")
                self.assertLessEqual(set(told), top_names(TREES[module]))
                before[name].add(module)
        while before:
            free = [name for name, modules in before.items() if not modules & set(before)]
            self.assertTrue(free, before)
            for name in free:
                del before[name]

    def test_imported_names_are_used_and_bound_once(self):
        """L15."""
        for name, tree in TREES.items():
            told = [alias.name for row in imports_of(tree) for alias in row.names]
            loaded = {node.id for node in ast.walk(tree) if isinstance(node, ast.Name)}
            self.assertEqual(len(told), len(set(told)))
            self.assertLessEqual(set(told), loaded, name)
            self.assertFalse(set(told) & bound_names(tree), name)
            tops = [row.name for row in tree.body if isinstance(row, (ast.FunctionDef, ast.ClassDef))]
            self.assertEqual(len(tops), len(set(tops)))
            classes = {row.name for row in tree.body if isinstance(row, ast.ClassDef)}
            bound = [node for node in ast.walk(tree) if isinstance(node, (ast.arg, ast.Name))]
            names = {getattr(node, "arg", None) or getattr(node, "id", None) for node in bound
                     if not isinstance(getattr(node, "ctx", None), ast.Load)}
            self.assertFalse(classes & names, name)

    def test_module_level(self):
        """L3."""
        for name, tree in TREES.items():
            for k, row in enumerate(tree.body):
                if isinstance(row, ast.Expr):
                    self.assertEqual((k, type(row.value.value)), (0, str), name)
                else:
                    self.assertIsInstance(row, (ast.ImportFrom, ast.FunctionDef, ast.ClassDef, ast.Assign))

    def test_names(self):
        """L8, L12, L15, L17: names that are bound, and builtins that are used."""
        for name, tree in TREES.items():
            bound = bound_names(tree)
            told = {alias.name for row in imports_of(tree) for alias in row.names}
            for one in bound - set(methods_of(tree)):
                self.assertRegex(one, r"^(_|_?[A-Za-z][A-Za-z0-9_]*)$")
                self.assertNotIn(one, BARRED | set(dir(builtins)), name)
            for node in ast.walk(tree):
                if isinstance(node, ast.Name) and isinstance(node.ctx, ast.Load):
                    known = bound | told | BUILTINS | {"property", "staticmethod", "classmethod", "super"}
                    known |= {one.name for one in ast.walk(tree) if isinstance(one, ast.ExceptHandler)}
                    self.assertIn(node.id, known - {"_"}, f"{name}:{node.lineno}")

    def test_methods_and_attributes(self):
        """L5, L17, L25, L26."""
        own = {method for tree in TREES.values() for method in methods_of(tree)}
        stored = {node.attr for _, node in self.each_node()
                  if isinstance(node, ast.Attribute) and isinstance(node.ctx, ast.Store)}
        values = {one for tree in TREES.values() for one in class_values(tree)}
        self.assertFalse(stored & own or stored & values or own & values)
        self.assertFalse((stored | own | values) & (ATTRIBUTES | BARRED))
        for method in own:
            self.assertTrue(method in DUNDERS or re.match(r"^_?[a-z]", method), method)
        for name, tree in TREES.items():
            for node, above in with_parents(tree):
                if isinstance(node, ast.Attribute):
                    is_called = isinstance(above, ast.Call) and above.func is node
                    known = own | (METHODS if is_called else stored | values)
                    self.assertIn(node.attr, known, f"{name}:{node.lineno}")
                    is_above = called(node.value) == "super"
                    self.assertFalse(is_called and node.attr in DUNDERS and not is_above, f"{name}:{node.lineno}")
                    self.assertTrue(not is_above or node.attr == "__init__", f"{name}:{node.lineno}")

    def test_decorators(self):
        """L4, L5."""
        for place, node in self.each_node():
            if isinstance(node, ast.ClassDef):
                self.assertEqual((node.decorator_list, node.keywords), ([], []), place)
            if isinstance(node, ast.FunctionDef):
                told = [one.id for one in node.decorator_list]
                self.assertIn(told, ([], ["property"], ["staticmethod"], ["classmethod"]), place)

    def test_double_underscores(self):
        """L5 Iteration, L28: methods of one statement, and what they return."""
        for tree in TREES.values():
            for top in tree.body:
                rows = {row.name: row for row in getattr(top, "body", []) if isinstance(row, ast.FunctionDef)}
                if isinstance(top, ast.ClassDef) and "__getitem__" in rows:
                    self.assertIn("__iter__", rows)
                for name, call in (("__iter__", "iter"), ("__len__", "len")):
                    if isinstance(top, ast.ClassDef) and name in rows:
                        self.assertEqual(len(rows[name].body), 1)
                        self.assertEqual(called(rows[name].body[0].value), call)
                if isinstance(top, ast.ClassDef) and "__str__" in rows:
                    self.assertEqual(called(rows["__str__"].body[-1].value), "str")
                if isinstance(top, ast.ClassDef) and "__init__" in rows:
                    self.assertFalse([1 for node in ast.walk(rows["__init__"]) if isinstance(node, ast.Return)])

    def test_raises(self):
        """L19: an error is created where it is raised."""
        errors = top_names(TREES["errors"])
        for place, node in self.each_node():
            if isinstance(node, ast.Raise):
                self.assertIn(called(node.exc), errors, place)
                self.assertIsNone(node.cause, place)

    def test_tries(self):
        """L6 Finally, L19: own errors are caught by name, and what is always done assigns an attribute."""
        errors = top_names(TREES["errors"])
        for place, node in self.each_node():
            if isinstance(node, ast.Try):
                self.assertEqual(node.orelse, [], place)
                for handler in node.handlers:
                    self.assertIn(handler.type.id, errors, place)
                for row in node.finalbody:
                    self.assertIsInstance(row, ast.Assign, place)
                    self.assertIsInstance(row.targets[0], ast.Attribute, place)
                    self.assertIsInstance(row.value, ast.Attribute, place)

    def test_what_properties_and_operators_run(self):
        """L5, L28: it changes nothing but lists and dicts of its own, and calls nothing that it is passed."""
        rows = still_ones()
        self.assertGreater(len(rows), 100)
        for row in rows:
            own = own_names(row)
            passed = {one.arg for one in row.args.args}
            for node in ast.walk(row):
                place = f"{row.name}:{node.lineno}" if hasattr(node, "lineno") else row.name
                self.assertNotIsInstance(node, (ast.AugAssign, ast.Try, ast.Lambda), place)
                if isinstance(node, ast.Attribute) and not isinstance(node.ctx, ast.Load):
                    self.assertEqual(row.name, "__init__", place)
                if isinstance(node, ast.Subscript) and not isinstance(node.ctx, ast.Load):
                    self.assertIn(getattr(node.value, "id", None), own, place)
                if isinstance(node, ast.Call) and isinstance(node.func, ast.Attribute):
                    if node.func.attr in CHANGING:
                        self.assertIn(getattr(node.func.value, "id", None), own, place)
                if isinstance(node, ast.Call) and isinstance(node.func, ast.Name):
                    self.assertNotIn(node.func.id, passed, place)

    def test_is(self):
        """L20."""
        for place, node in self.each_node():
            if isinstance(node, ast.Compare):
                for sign, right in zip(node.ops, node.comparators):
                    if isinstance(sign, (ast.Is, ast.IsNot)):
                        self.assertIn(getattr(right, "value", 0), (None, True, False), place)

    def test_keywords(self):
        """L22."""
        for place, node in self.each_node():
            if isinstance(node, ast.Call) and node.keywords:
                name, told = called(node), {keyword.arg for keyword in node.keywords}
                if name in BUILTINS or isinstance(node.func, ast.Attribute):
                    self.assertLessEqual(told, KEYWORDS.get(name, set()), place)

    def test_what_is_iterated_at_once(self):
        """L23: ranges and the like are not kept."""
        for name, tree in TREES.items():
            for node, above in with_parents(tree):
                if called(node) in PASSING:
                    place = f"{name}:{node.lineno}"
                    if isinstance(above, (ast.For, ast.comprehension)):
                        self.assertIs(above.iter, node, place)
                    elif called(node) == "range" and called(above) == "reversed":
                        continue
                    else:
                        self.assertIn(called(above), TAKERS, place)
                        self.assertIs(above.args[0], node, place)

    def test_sets(self):
        """L24: sets are sorted, or counted, where they stand."""
        for name, tree in TREES.items():
            for node, above in with_parents(tree):
                if isinstance(node, ast.SetComp) or called(node) == "set":
                    self.assertIn(called(above), ("sorted", "len"), f"{name}:{node.lineno}")
                    self.assertEqual(above.keywords, [])

    def test_calls_that_take_lists(self):
        """L7: any, all and the like take lists; a class of the package has an equality of its own."""
        for place, node in self.each_node():
            if called(node) in ("any", "all"):
                self.assertIsInstance(node.args[0], ast.ListComp, place)
            if called(node) in ("min", "max", "sum"):
                self.assertIsInstance(node.args[0], (ast.ListComp, ast.Name), place)

    def test_strings_and_numbers(self):
        """L7, L17, L27."""
        docs = set()
        for tree in TREES.values():
            for node in ast.walk(tree):
                if isinstance(node, (ast.Module, ast.ClassDef, ast.FunctionDef)) and ast.get_docstring(node):
                    docs.add(node.body[0].value)
        for place, node in self.each_node():
            if isinstance(node, ast.Constant):
                self.assertIn(type(node.value), (int, str, bool, type(None)), place)
            if isinstance(node, ast.Constant) and isinstance(node.value, str):
                self.assertNotIn("%", node.value, place)
                self.assertFalse(node.value.endswith(("._", ".__")), place)
                self.assertNotRegex(node.value, r"^__.*__$")
                if node not in docs:
                    self.assertFalse(set(re.findall(r"\w+", node.value)) & WORDS, place)
            if isinstance(node, ast.BinOp):
                self.assertNotIsInstance(node.op, (ast.Div, ast.Pow, ast.BitOr), place)

    def test_words(self):
        """L17: words that stand nowhere but in comments and docstrings."""
        for place, node in self.each_node():
            for field in ("id", "attr", "arg", "name"):
                self.assertNotIn(getattr(node, field, None), WORDS, place)

    def test_lambdas_on_one_line(self):
        """L13."""
        for name, tree in TREES.items():
            lines = [node.lineno for node in ast.walk(tree) if isinstance(node, ast.Lambda)]
            self.assertEqual(len(lines), len(set(lines)), name)
