"""The rules of the language that can be seen in the code, file by file."""

import ast
import builtins
import functools
import pathlib
import re
import unittest

FOLDER = pathlib.Path(__file__).resolve().parent.parent / "jumblepost"
FILES = sorted(FOLDER.glob("*.py"))
TREES = {path.stem: ast.parse(path.read_text()) for path in FILES}

BUILTINS = set(
    "len range enumerate zip min max sum abs sorted reversed int str bool list tuple dict set isinstance ord repr any "
    "all divmod iter ValueError TypeError KeyError property staticmethod classmethod True False None NotImplemented".split())
DUNDERS = set(
    "__init__ __eq__ __repr__ __str__ __len__ __iter__ __and__ __invert__ __contains__ __bool__ __getitem__".split())
BUILTIN_METHODS = set(
    "append clear copy count endswith extend find get index insert isalnum isalpha isdigit islower isspace isupper "
    "items join keys ljust lower lstrip partition pop remove replace reverse rfind rjust rpartition rsplit rstrip "
    "setdefault split splitlines startswith strip update upper values zfill bit_length removeprefix removesuffix".split())
ATTRIBUTES_BARRED = set(
    "items keys values pop update append clear extend insert remove reverse setdefault sort args encode decode hex "
    "fromhex format format_map mro register elements open input law version_info with_traceback add_note".split())
WORDS_BARRED = (
    "type", "typing", "typing_extensions", "enum", "Enum", "IntEnum", "StrEnum", "Flag", "IntFlag", "Generic",
    "Protocol", "ABC", "ABCMeta", "namedtuple", "NamedTuple", "TypedDict", "TYPE_CHECKING", "abstractmethod")
PARTS_BARRED = ("_wall", "_WallAttr", "dataclass", "overload", "contextmanager", "Meta", "metaclass=")
NODES_BARRED = (
    ast.GeneratorExp, ast.Lambda, ast.Global, ast.Nonlocal, ast.AsyncFunctionDef, ast.Await, ast.Div, ast.MatMult,
    ast.With, ast.Match, ast.NamedExpr, ast.AnnAssign, ast.Set, ast.SetComp, ast.Delete, ast.Assert,
    ast.YieldFrom, ast.Import, ast.BitOr, ast.BitXor)
LOCALS = (ast.FunctionDef, ast.ClassDef)
# The document itself calls a parameter like a function of the same file.
DOCUMENTED = {("spans", "span")}
# Methods that it calls as attributes of other classes are called.
DOCUMENTED_METHODS = {"begin", "table"}
LIBRARY = {"math": ("gcd", "lcm", "isqrt", "comb", "perm", "factorial"), "heapq": ("heappush", "heappop", "heapify")}


def functions(tree):
    return [node for node in ast.walk(tree) if isinstance(node, ast.FunctionDef)]


def classes(tree):
    return [node for node in ast.walk(tree) if isinstance(node, ast.ClassDef)]


def imports(tree):
    return [node for node in tree.body if isinstance(node, ast.ImportFrom)]


def imported(tree):
    return {name.name: node.module for node in imports(tree) for name in node.names}


def own_names(tree):
    """The names that a file binds at its module level, but for imports."""
    names = [node.name for node in tree.body if isinstance(node, LOCALS)]
    return names + [node.targets[0].id for node in tree.body if isinstance(node, ast.Assign)]


def parameters(function):
    args = function.args
    every = args.posonlyargs + args.args + args.kwonlyargs
    return [arg.arg for arg in every + [told for told in (args.vararg, args.kwarg) if told]]


def bound_names(tree):
    """All names that are assigned, imported, defined or parameters, with their lines."""
    for node in ast.walk(tree):
        if isinstance(node, ast.Name) and isinstance(node.ctx, ast.Store):
            yield node.id, node.lineno
        elif isinstance(node, LOCALS):
            yield node.name, node.lineno
            if isinstance(node, ast.FunctionDef):
                yield from [(name, node.lineno) for name in parameters(node)]


def attributes_set(node):
    return {told.attr for told in ast.walk(node) if isinstance(told, ast.Attribute) and isinstance(told.ctx, ast.Store)}


@functools.cache
def decorated(name):
    """The names of all methods with this decorator."""
    found = []
    for tree in TREES.values():
        for node in functions(tree):
            if [told for told in node.decorator_list if told.id == name]:
                found.append(node.name)
    return set(found)


@functools.cache
def methods():
    return {node.name for tree in TREES.values() for told in classes(tree) for node in told.body if isinstance(node, ast.FunctionDef)}


@functools.cache
def generators():
    found = []
    for tree in TREES.values():
        for node in functions(tree):
            if [told for told in ast.walk(node) if isinstance(told, ast.Yield)]:
                found.append(node)
    return found


class TestFiles(unittest.TestCase):

    def test_files_and_characters(self):
        self.assertEqual([path for path in FOLDER.iterdir() if path.suffix != ".py" and path.name != "__pycache__"], [])
        self.assertIn("__init__", TREES)
        for path in FILES:
            text = path.read_text()
            self.assertTrue(path.stem == path.stem.lower())
            self.assertLessEqual(text.count("\n"), 399, path)
            self.assertEqual({sign for sign in text if not " " <= sign <= "~" and sign != "\n"}, set(), path)
            self.assertTrue(all(len(row) <= 120 for row in text.split("\n")), path)
            self.assertEqual(set(re.findall("[A-Za-z_0-9]+", text)) & set(WORDS_BARRED), set(), path)
            self.assertEqual([part for part in PARTS_BARRED if part in text], [], path)

    def test_functions_are_short(self):
        for name, tree in TREES.items():
            for node in functions(tree):
                self.assertLessEqual(node.end_lineno - node.lineno + 1, 40, (name, node.name))

    def test_docstrings(self):
        for name, tree in TREES.items():
            for node in [tree, *classes(tree), *functions(tree)]:
                if not (isinstance(node, ast.FunctionDef) and node.name.startswith("__")):
                    self.assertTrue(ast.get_docstring(node), (name, getattr(node, "name", "")))

    def test_module_level(self):
        for name, tree in TREES.items():
            kinds = [isinstance(node, (ast.ImportFrom, *LOCALS, ast.Assign)) for node in tree.body[1:]]
            self.assertTrue(all(kinds), name)
            bound = own_names(tree) + list(imported(tree))
            self.assertEqual(len(bound), len(set(bound)), name)
            last_import = max([at for at, node in enumerate(tree.body) if isinstance(node, ast.ImportFrom)], default=0)
            self.assertEqual(len(imports(tree)), last_import)


class TestImports(unittest.TestCase):

    def test_from_the_very_file(self):
        for name, tree in TREES.items():
            for node in imports(tree):
                package, _, module = node.module.partition(".")
                self.assertEqual(node.level, 0, name)
                for told in node.names:
                    self.assertIsNone(told.asname)
                    if package in LIBRARY:
                        self.assertIn(told.name, LIBRARY[package], name)
                    else:
                        self.assertEqual(package, "jumblepost", name)
                        self.assertIn(told.name, own_names(TREES[module]), name)

    def test_what_the_library_gives_is_called(self):
        for name, tree in TREES.items():
            given = {told for told, module in imported(tree).items() if module in LIBRARY}
            called = {id(node.func) for node in ast.walk(tree) if isinstance(node, ast.Call) and not node.keywords}
            for node in ast.walk(tree):
                if isinstance(node, ast.Name) and node.id in given:
                    self.assertIn(id(node), called, (name, node.lineno))

    def test_no_circles(self):
        below = {
            name: {node.module.partition(".")[2] for node in imports(tree) if node.module not in LIBRARY}
            for name, tree in TREES.items()
        }
        done = set()
        while len(done) < len(below):
            ready = {name for name in below if name not in done and below[name] <= done}
            self.assertTrue(ready, below)
            done |= ready

    def test_each_import_is_used(self):
        for name, tree in TREES.items():
            used = {node.id for node in ast.walk(tree) if isinstance(node, ast.Name)}
            self.assertEqual(set(imported(tree)) - used, set(), name)


class TestStatements(unittest.TestCase):

    def test_barred_nodes(self):
        for name, tree in TREES.items():
            for node in ast.walk(tree):
                self.assertNotIsInstance(node, NODES_BARRED, (name, getattr(node, "lineno", 0)))

    def test_constants(self):
        for name, tree in TREES.items():
            for node in ast.walk(tree):
                if isinstance(node, ast.Constant):
                    self.assertIsInstance(node.value, (int, str, bool, type(None)), (name, node.lineno))
                    self.assertNotIn("%", str(node.value), (name, node.lineno))
                if isinstance(node, ast.BinOp) and isinstance(node.op, ast.Pow):
                    self.assertIsInstance(node.right, ast.Constant)
                if isinstance(node, ast.arg):
                    self.assertIsNone(node.annotation)

    def test_is_with_none_and_bools(self):
        for name, tree in TREES.items():
            for node in ast.walk(tree):
                if isinstance(node, ast.Compare) and isinstance(node.ops[0], (ast.Is, ast.IsNot)):
                    told = node.comparators[0]
                    self.assertTrue(isinstance(told, ast.Constant) and told.value in (None, True, False), (name, node.lineno))

    def test_decorators(self):
        for name, tree in TREES.items():
            for node in functions(tree):
                for told in node.decorator_list:
                    self.assertIn(told.id, ("property", "staticmethod", "classmethod"), name)
            for node in classes(tree):
                self.assertEqual(node.decorator_list, [])

    def test_errors_are_made_on_the_spot(self):
        for name, tree in TREES.items():
            for node in ast.walk(tree):
                if isinstance(node, ast.Raise):
                    self.assertIsInstance(node.exc, ast.Call, (name, node.lineno))
                    self.assertIn(node.exc.func.id, own_names(TREES["errors"]))
                    self.assertEqual(node.exc.keywords, [])


class TestTries(unittest.TestCase):

    def tries(self):
        return [(name, node) for name, tree in TREES.items() for node in ast.walk(tree) if isinstance(node, ast.Try)]

    def test_own_errors_alone_are_caught(self):
        for name, node in self.tries():
            self.assertEqual((node.finalbody, node.orelse), ([], []), name)
            for handler in node.handlers:
                self.assertIn(handler.type.id, own_names(TREES["errors"]), name)

    def test_nothing_is_yielded_under_a_try(self):
        for name, node in self.tries():
            self.assertFalse([told for told in ast.walk(node) if isinstance(told, ast.Yield)], name)

    def test_of_caught_errors_their_own_fields_are_read(self):
        for name, node in self.tries():
            for handler in [told for told in node.handlers if told.name]:
                fine = {id(told.value) for told in ast.walk(handler) if isinstance(told, ast.Attribute)}
                fine |= {id(told.cause) for told in ast.walk(handler) if isinstance(told, ast.Raise)}
                read = [told for told in ast.walk(handler) if isinstance(told, ast.Name) and told.id == handler.name]
                self.assertTrue(read and all(id(told) in fine for told in read), name)


class TestNames(unittest.TestCase):

    def test_builtins(self):
        known = set(dir(builtins))
        for name, tree in TREES.items():
            for node in ast.walk(tree):
                if isinstance(node, ast.Name) and node.id in known:
                    self.assertIn(node.id, BUILTINS, (name, node.lineno))
            for bound, line in bound_names(tree):
                self.assertNotIn(bound, known, (name, line))
                self.assertTrue(bound == "_" or bound in DUNDERS or not bound.startswith("_"), (name, line))

    def test_no_name_of_a_class_or_an_import(self):
        for name, tree in TREES.items():
            barred = set(imported(tree)) | {node.name for node in classes(tree)}
            inner = [told for node in functions(tree) for told in bound_names(node) if told[0] != node.name]
            self.assertEqual([told for told in inner if told[0] in barred], [], name)
            self.assertEqual([told for told in inner if told[0] in own_names(tree) and (name, told[0]) not in DOCUMENTED], [], name)

    def test_double_underscores(self):
        for name, tree in TREES.items():
            for node in ast.walk(tree):
                told = getattr(node, "attr", None) or getattr(node, "name", None) or getattr(node, "id", None)
                if isinstance(told, str) and told.startswith("__"):
                    self.assertIn(told, DUNDERS, name)

    def test_generators(self):
        found = [node.name for node in generators()]
        every = [node.name for tree in TREES.values() for node in functions(tree)]
        for told in found:
            self.assertEqual(every.count(told), 1, told)
            self.assertNotIn(told, BUILTIN_METHODS)
        for node in generators():
            self.assertEqual([told for told in ast.walk(node) if isinstance(told, ast.Return) and told.value], [])

    def test_attributes(self):
        for name, tree in TREES.items():
            self.assertEqual(attributes_set(tree) & ATTRIBUTES_BARRED, set(), name)
            for node in classes(tree):
                own = {told.name for told in node.body if isinstance(told, ast.FunctionDef)}
                self.assertEqual(own & attributes_set(node), set(), node.name)
        every = set().union(*[attributes_set(tree) for tree in TREES.values()])
        for barred in (decorated("classmethod") | decorated("staticmethod"), {node.name for node in generators()}):
            self.assertEqual(barred & every, set())
        self.assertEqual(decorated("property") & (methods() - decorated("property")), set())
        plain = methods() - decorated("classmethod") - decorated("staticmethod") - decorated("property")
        self.assertEqual(plain & every, DOCUMENTED_METHODS)

    def test_methods_that_are_attributes_elsewhere(self):
        """They are called by no operator and no property, and stand under no decorator."""
        for name, tree in TREES.items():
            for node in functions(tree):
                if node.name in DOCUMENTED_METHODS:
                    self.assertEqual(node.decorator_list, [])
                calls = [told.func.attr for told in ast.walk(node) if isinstance(told, ast.Call) and isinstance(told.func, ast.Attribute)]
                if node.decorator_list or node.name in DUNDERS:
                    self.assertEqual(set(calls) & DOCUMENTED_METHODS, set(), (name, node.name))

    def test_no_attribute_has_the_name_of_a_property(self):
        every = set().union(*[attributes_set(tree) for tree in TREES.values()])
        self.assertEqual(decorated("property") & every, set())

    def test_attributes_that_are_read_are_set(self):
        every = set().union(*[attributes_set(tree) for tree in TREES.values()])
        values = {told.targets[0].id for tree in TREES.values() for node in classes(tree) for told in node.body if isinstance(told, ast.Assign)}
        for name, tree in TREES.items():
            called = {id(node.func) for node in ast.walk(tree) if isinstance(node, ast.Call)}
            for node in ast.walk(tree):
                if isinstance(node, ast.Attribute) and isinstance(node.ctx, ast.Load):
                    if id(node) in called:
                        self.assertIn(node.attr, BUILTIN_METHODS | methods(), (name, node.lineno))
                    else:
                        self.assertIn(node.attr, every | values | decorated("property"), (name, node.lineno))


def with_init(node):
    """Whether a class, or one above it, has an __init__ in its own body."""
    above = [told for tree in TREES.values() for told in classes(tree) for base in node.bases if told.name == base.id]
    return "__init__" in [told.name for told in node.body if isinstance(told, ast.FunctionDef)] or any(map(with_init, above))


class TestCalls(unittest.TestCase):

    def test_classes_that_are_passed_values_have_an_init(self):
        """Of the errors each one has its own: the document lets any values be passed to it, not strings alone."""
        bare = {node.name for tree in TREES.values() for node in classes(tree) if not with_init(node)}
        for name, tree in TREES.items():
            for node in ast.walk(tree):
                if isinstance(node, ast.Call) and isinstance(node.func, ast.Name) and node.func.id in bare:
                    self.assertEqual((node.args, node.keywords), ([], []), (name, node.lineno))
        for node in classes(TREES["errors"]):
            self.assertIn("__init__", [told.name for told in node.body if isinstance(told, ast.FunctionDef)], node.name)

    def test_classes_are_called_or_asked_for(self):
        known = {node.name for tree in TREES.values() for node in classes(tree)}
        for name, tree in TREES.items():
            fine = set()
            for node in ast.walk(tree):
                if isinstance(node, ast.Call):
                    fine.add(id(node.func))
                    if isinstance(node.func, ast.Name) and node.func.id == "isinstance":
                        fine.add(id(node.args[1]))
                elif isinstance(node, ast.ClassDef):
                    fine |= {id(base) for base in node.bases}
                elif isinstance(node, ast.ExceptHandler):
                    fine.add(id(node.type))
                elif isinstance(node, ast.Attribute):
                    fine.add(id(node.value))
            for node in ast.walk(tree):
                if isinstance(node, ast.Name) and node.id in known:
                    self.assertIn(id(node), fine, (name, node.lineno))

    def test_keywords_of_builtins(self):
        allowed = {"sorted": ("key", "reverse"), "min": ("key", "default"), "max": ("key", "default"), "sum": ("start",), "enumerate": ("start",), "zip": ("strict",)}
        for name, tree in TREES.items():
            for node in ast.walk(tree):
                if isinstance(node, ast.Call) and node.keywords:
                    told = node.func.id if isinstance(node.func, ast.Name) else node.func.attr
                    if told in BUILTINS | BUILTIN_METHODS:
                        self.assertTrue(all(word.arg in allowed.get(told, ()) for word in node.keywords), (name, node.lineno))

    def test_iterated_at_once(self):
        lazy = ("zip", "enumerate", "reversed", "range")
        takers = ("list", "tuple", "dict", "sorted", "sum", "any", "all", "enumerate", "zip")
        for name, tree in TREES.items():
            fine = set()
            for node in ast.walk(tree):
                if isinstance(node, (ast.For, ast.comprehension)):
                    fine.add(id(node.iter))
                elif isinstance(node, ast.Call) and isinstance(node.func, ast.Name) and node.func.id in takers:
                    fine |= {id(told) for told in node.args}
            for node in ast.walk(tree):
                if isinstance(node, ast.Call) and isinstance(node.func, ast.Name):
                    if node.func.id in lazy + tuple(told.name for told in generators()):
                        self.assertIn(id(node), fine, (name, node.lineno))


COMPREHENSIONS = (ast.ListComp, ast.DictComp)
MODIFYING = ("append", "clear", "extend", "insert", "pop", "remove", "reverse", "setdefault", "update", "sort")
# What is first asked of builtins: a list, where a class has an __eq__ (L7).
TAKES_LISTS = ("any", "all", "min", "max", "sum", "sorted")


def iterated(node):
    """What a loop or a comprehension goes over, without enumerate, zip, items and the like around it."""
    if isinstance(node, ast.Call):
        if isinstance(node.func, ast.Name) and node.func.id in ("enumerate", "zip", "reversed"):
            return [told for arg in node.args for told in iterated(arg)]
        if isinstance(node.func, ast.Attribute) and node.func.attr in ("items", "keys", "values"):
            return chosen(node.func.value)
        return []
    return chosen(node)


def chosen(node):
    """The names, fields and items that an expression can be: several if it is a choice."""
    if isinstance(node, ast.IfExp):
        return chosen(node.body) + chosen(node.orelse)
    if isinstance(node, ast.BoolOp):
        return [told for value in node.values for told in chosen(value)]
    if isinstance(node, (ast.Name, ast.Attribute, ast.Subscript)):
        return [ast.unparse(node)]
    return []


def modified(node):
    """What is modified in some rows by a method of builtin values, by an item, or in place."""
    found = []
    for told in ast.walk(node):
        if isinstance(told, ast.Call) and isinstance(told.func, ast.Attribute) and told.func.attr in MODIFYING:
            found.extend(chosen(told.func.value))
        if isinstance(told, ast.Call) and isinstance(told.func, ast.Name) and told.func.id in LIBRARY["heapq"]:
            found.extend(chosen(told.args[0]))
        if isinstance(told, ast.Subscript) and isinstance(told.ctx, (ast.Store, ast.Del)):
            found.extend(chosen(told.value))
        if isinstance(told, ast.AugAssign):
            found.extend(chosen(told.target))
    return found


def assigned(target, value):
    """The pairs (name, other name) for what an assignment gives to one that another one has."""
    if isinstance(target, ast.Tuple):
        values = value.elts if isinstance(value, ast.Tuple) and len(value.elts) == len(target.elts) else []
        return [pair for one, told in zip(target.elts, values) for pair in assigned(one, told)]
    return [(one, other) for one in chosen(target) for other in chosen(value)]


def with_other_names(function, names):
    """Some names, and all that stand for the same thing by some assignment of a function, wherever it stands."""
    rows = [node for node in ast.walk(function) if isinstance(node, ast.Assign)]
    pairs = [pair for node in rows for target in node.targets for pair in assigned(target, node.value)]
    names = set(names)
    many = 0
    while many < len(names):
        many = len(names)
        names |= {name for pair in pairs if set(pair) & names for name in pair}
    return names


def changed_loops(tree):
    """The lines of the loops and comprehensions that change what they iterate over, by any of its names."""
    found = []
    for function in functions(tree):
        for node in ast.walk(function):
            if isinstance(node, ast.For):
                over, inside = iterated(node.iter), node.body
            elif isinstance(node, COMPREHENSIONS):
                over, inside = [told for rule in node.generators for told in iterated(rule.iter)], [node]
            else:
                continue
            if with_other_names(function, over) & {told for row in inside for told in modified(row)}:
                found.append(node.lineno)
    return found


CHANGED_LOOPS = """
def walk(rows, box, wide):
    found = {}
    for row in rows:
        HERE
    other = found if wide else {}
    box.rows, last = other, 0
    rows = box.rows
    return rows
"""


class TestLoops(unittest.TestCase):

    def test_nothing_is_changed_that_is_iterated_over(self):
        for name, tree in TREES.items():
            self.assertEqual(changed_loops(tree), [], name)

    def test_changes_are_seen_under_each_name(self):
        for row in ("rows[row] = 1", "found[row] = 1", "box.rows[row] = 1", "other.pop(row)", "found += [row]",
                    "(found or box).append(row)", "del found[row]", "heappush(other, row)"):
            self.assertEqual(changed_loops(ast.parse(CHANGED_LOOPS.replace("HERE", row))), [4], row)
        for row in ("box[row] = 1", "last[row] = 1", "found = {}", "row.append(1)", "rows[row].append(1)"):
            self.assertEqual(changed_loops(ast.parse(CHANGED_LOOPS.replace("HERE", row))), [], row)
        text = CHANGED_LOOPS.replace("HERE", "found[row] = 1")
        for fine in ("list(rows)", "sorted(rows)", "list(rows.items())"):
            self.assertEqual(changed_loops(ast.parse(text.replace("in rows:", "in " + fine + ":"))), [], fine)
        for wrong in ("rows.items()", "enumerate(rows)", "zip(wide, rows)", "(wide or rows)"):
            self.assertEqual(changed_loops(ast.parse(text.replace("in rows:", "in " + wrong + ":"))), [4], wrong)

    def test_names_in_inner_comprehensions(self):
        for name, tree in TREES.items():
            for function in functions(tree):
                barred = {told.id for told in plain_stores(function)} | set(parameters(function))
                for node in inner_comprehensions(function):
                    targets = [told for rule in node.generators for told in ast.walk(rule.target) if isinstance(told, ast.Name)]
                    self.assertEqual({told.id for told in targets} & barred - {"_"}, set(), (name, node.lineno))

    def test_lists_for_builtins(self):
        for name, tree in TREES.items():
            for node in ast.walk(tree):
                if isinstance(node, ast.Call) and isinstance(node.func, ast.Name) and node.func.id in TAKES_LISTS:
                    self.assertNotIsInstance(node.args[0], ast.GeneratorExp, (name, node.lineno))


def inner_comprehensions(function):
    """The comprehensions that stand in other ones."""
    for node in ast.walk(function):
        if isinstance(node, COMPREHENSIONS):
            for child in ast.iter_child_nodes(node):
                yield from [told for told in ast.walk(child) if isinstance(told, COMPREHENSIONS)]


def plain_stores(function):
    """The names that a function assigns outside of its comprehensions."""
    waiting = list(ast.iter_child_nodes(function))
    while waiting:
        node = waiting.pop()
        if isinstance(node, COMPREHENSIONS):
            continue
        if isinstance(node, ast.Name) and isinstance(node.ctx, ast.Store):
            yield node
        waiting.extend(ast.iter_child_nodes(node))


class TestClasses(unittest.TestCase):

    def test_class_methods(self):
        """cls is called, or asked for a class value; a method with a star has a plain first parameter."""
        for name, tree in TREES.items():
            for node in functions(tree):
                if [told for told in node.decorator_list if told.id == "classmethod"]:
                    fine = [told.func for told in ast.walk(node) if isinstance(told, ast.Call)]
                    fine += [told.value for told in ast.walk(node) if isinstance(told, ast.Attribute)]
                    asked = [told for told in ast.walk(node) if isinstance(told, ast.Name) and told.id == "cls"]
                    self.assertTrue(asked and all(told in fine for told in asked), (name, node.name))

    def test_properties_and_operators_only_read(self):
        for name, tree in TREES.items():
            for node in functions(tree):
                reads = [told for told in node.decorator_list if told.id == "property"] or node.name in DUNDERS - {"__init__"}
                if reads:
                    stores = [told for told in ast.walk(node) if isinstance(told, (ast.Attribute, ast.Subscript)) and isinstance(told.ctx, ast.Store)]
                    self.assertEqual((stores, modified(node)), ([], []), (name, node.name))

    def test_class_values(self):
        values = [told for tree in TREES.values() for node in classes(tree) for told in node.body if isinstance(told, ast.Assign)]
        every = set().union(*[attributes_set(tree) for tree in TREES.values()])
        for told in values:
            self.assertIsInstance(told.value, ast.Constant)
            self.assertNotIn(told.targets[0].id, every | methods())


class TestDoubleUnderscoreMethods(unittest.TestCase):

    def test_they_only_return(self):
        for name, tree in TREES.items():
            for node in functions(tree):
                if node.name in ("__eq__", "__str__", "__len__", "__iter__", "__bool__"):
                    self.assertEqual([type(told) for told in node.body], [ast.Return], (name, node.lineno))
                if node.name == "__len__":
                    self.assertEqual(node.body[0].value.func.id, "len")
                if node.name == "__str__":
                    value = node.body[0].value
                    joins = isinstance(value, ast.Call) and value.func.attr == "join" and isinstance(value.func.value, ast.Constant)
                    self.assertTrue(joins or isinstance(value, ast.JoinedStr), name)
                if node.name == "__init__":
                    self.assertEqual([told for told in ast.walk(node) if isinstance(told, ast.Return)], [])

    def test_equality_asks_for_the_class_first(self):
        for tree in TREES.values():
            for owner in classes(tree):
                for node in owner.body:
                    if isinstance(node, ast.FunctionDef) and node.name == "__eq__":
                        first = node.body[0].value.values[0]
                        self.assertEqual((first.func.id, first.args[1].id), ("isinstance", owner.name))


if __name__ == "__main__":
    unittest.main()
