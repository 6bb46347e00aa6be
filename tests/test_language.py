"""Tests that the package keeps to the rules of the language subset that a reader of its code can check plainly.

The names of the tests have the numbers of the rules.
"""

import ast
import builtins
import pathlib
import re
import unittest

PACKAGE = pathlib.Path(__file__).resolve().parent.parent / "roundswap"

# What each file must define itself, as the document's interface lists it.
INTERFACE = {
    "words": ["is_word", "opposite", "shortened", "counts", "precedes", "words_of"],
    "phrases": ["read_word", "format_word"],
    "tables": ["Table", "Table.rows", "Table.width", "Table.size", "Table.place", "Table.__contains__", "Table.places",
               "Table.covers", "Table.joined", "Table.__eq__", "Table.__repr__", "tables_of"],
    "walks": ["Walk", "Walk.of", "Walk.table", "Walk.streets", "Walk.at_street", "Walk.ends", "Walk.moved", "Walk.times",
              "Walk.plus", "Walk.minus", "Walk.__len__", "Walk.__eq__", "Walk.__repr__"],
    "towns": ["Town", "Town.MOST", "Town.letters", "Town.width", "Town.table", "Town.rules", "Town.__len__",
              "Town.comes_round", "Town.place_of", "Town.walk_of", "Town.moved_rule", "Town.with_rules", "Town.without",
              "Town.joined", "Town.__eq__", "Town.__repr__", "Town.text", "Town.read"],
    "tolls": ["TollTown", "TollTown.table", "TollTown.modulus", "TollTown.size", "TollTown.tolls", "TollTown.toll",
              "TollTown.end", "TollTown.parts", "TollTown.fault", "TollTown.keeps", "TollTown.__eq__",
              "TollTown.__repr__", "toll_count"],
    "sums": ["is_sum", "size_of_sum", "sum_within"],
    "verdicts": ["decide", "Verdict", "Verdict.town", "Verdict.one", "Verdict.other", "Verdict.told", "Verdict.__repr__",
                 "Verdict.__bool__", "Even", "Even.rows", "Even.told", "Parted", "Parted.toll_town", "Parted.told",
                 "is_even", "commute", "least_power", "unlike_rule"],
    "chains": ["applied", "walked", "is_chain", "chain_of"],
    "turning": ["turner", "rolled", "word_of"],
    "leads": ["Lead", "Lead.same", "Lead.source", "Lead.target", "Lead.words", "Lead.image", "Lead.__call__", "Lead.keeps",
              "Lead.fault", "Lead.then", "Lead.alike", "Lead.__eq__", "Lead.__repr__"],
    "firsts": ["first_word", "first_words"],
    "atlas": ["Atlas", "Atlas.MOST", "Atlas.limit", "Atlas.change_limit", "Atlas.apply", "Atlas.undo", "Atlas.redo",
              "Atlas.history", "Atlas.busy", "Atlas.names", "Atlas.labels", "Atlas.town_of", "Atlas.claim_of",
              "Atlas.verdict", "Atlas.holds", "Atlas.broken", "Atlas.kept", "Atlas.decided", "Atlas.twin",
              "Atlas.__len__", "Atlas.__contains__", "Atlas.__eq__", "GuardedAtlas"],
    "pages": ["format_atlas", "parse_atlas"],
    "desks": ["Desk", "Desk.atlas", "Desk.ask", "Desk.__call__", "Desk.log"],
}
BUILTINS = set("""
    len range enumerate zip min max sum abs sorted reversed int str bool bytes list tuple dict set frozenset isinstance
    ord repr any all divmod iter next super property staticmethod classmethod Exception ValueError TypeError KeyError
    IndexError LookupError ZeroDivisionError ArithmeticError OverflowError RuntimeError NotImplementedError
    AttributeError StopIteration NotImplemented
""".split())
METHODS = set("""
    append clear copy count endswith extend find get index insert isalnum isalpha isdigit islower isspace isupper items
    join keys ljust lower lstrip partition pop remove replace reverse rfind rjust rpartition rsplit rstrip setdefault
    split splitlines startswith strip update upper values zfill bit_length title capitalize swapcase casefold center
    expandtabs removeprefix removesuffix rindex isascii isdecimal isnumeric istitle isidentifier isprintable translate
    sort add discard
""".split())
SPECIAL_METHODS = set("""
    __init__ __eq__ __repr__ __str__ __len__ __enter__ __exit__ __call__ __iter__ __bool__ __contains__
""".split())
SPECIAL = re.compile(r"__[a-z]+__")
BARRED_WORDS = re.compile(
    r"\b(type|typing|typing_extensions|enum|Enum|IntEnum|StrEnum|Flag|IntFlag|Generic|Protocol|ABC|ABCMeta|namedtuple"
    r"|NamedTuple|TypedDict|TYPE_CHECKING|abstractmethod)\b|dataclass|overload|contextmanager"
)
BARRED_NAMES = {"register", "mro", "elements", "open", "input", "law", "version_info", "with_traceback", "add_note"}
LIST_TAKERS = {"any", "all", "min", "max", "sum", "sorted"}
NOT_STORED = {"zip", "enumerate", "reversed", "range", "items", "keys", "values"}


def sources():
    """Return the text of each file of the package by its name without ending."""
    return {path.stem: path.read_text() for path in sorted(PACKAGE.glob("*.py"))}


def nodes(kind):
    """Return the pairs of a place in the package and each node of a kind."""
    found = []
    for name, text in sources().items():
        some = [node for node in ast.walk(ast.parse(text)) if isinstance(node, kind)]
        found += [(f"{name}.py:{getattr(node, 'lineno', 0)}", node) for node in some]
    return found


def own_methods():
    """Return the definitions of all methods, properties included."""
    return [part for at, one in nodes(ast.ClassDef) for part in one.body if isinstance(part, ast.FunctionDef)]


def methods_and_attributes():
    """Return the names of all own methods, and those of all attributes that are assigned.

    Errors have attributes that other classes may have as properties.
    """
    methods = {part.name for part in own_methods()}
    stored = {node.attr for at, node in nodes(ast.Attribute)
              if isinstance(node.ctx, ast.Store) and not at.startswith("errors.py")}
    setters = {part.name for part in own_methods() if any(".setter" in ast.unparse(one) for one in part.decorator_list)}
    return methods, stored - setters


def attributes_of_errors():
    """Return the names of all attributes of errors."""
    return {node.attr for at, node in nodes(ast.Attribute)
            if isinstance(node.ctx, ast.Store) and at.startswith("errors.py")}


def class_values():
    """Return the names of all class values."""
    return {ast.unparse(part.targets[0]) for at, one in nodes(ast.ClassDef) for part in one.body
            if isinstance(part, ast.Assign)}


def names_bound(body):
    """Return the names of the functions, classes and plain values that stand in a body."""
    found = {node.name for node in body if isinstance(node, (ast.FunctionDef, ast.ClassDef))}
    return found | {ast.unparse(node.targets[0]) for node in body if isinstance(node, ast.Assign)}


def defined_in(name):
    """Return the functions, classes, plain values, methods and class values that a file defines."""
    body = ast.parse(sources()[name]).body
    found = names_bound(body)
    for node in body:
        if isinstance(node, ast.ClassDef):
            found |= {f"{node.name}.{part}" for part in names_bound(node.body)}
    return found


def imports_of(name):
    """Return the import statements of a file."""
    return [node for node in ast.walk(ast.parse(sources()[name])) if isinstance(node, (ast.Import, ast.ImportFrom))]


class LanguageTest(unittest.TestCase):
    def test_interface_is_defined_in_its_own_file(self):
        for name, listed in INTERFACE.items():
            self.assertEqual(set(listed) - defined_in(name), set(), name)

    def test_l1_l14_files_and_characters(self):
        for path in PACKAGE.iterdir():
            if path.name != "__pycache__":
                self.assertRegex(path.name, r"^[a-z_][a-z0-9_]*\.py$")
        for name, text in sources().items():
            self.assertEqual([mark for mark in text if not (" " <= mark <= "~" or mark == "\n")], [], name)

    def test_l2_l16_imports(self):
        for name in sources():
            for node in imports_of(name):
                self.assertIsInstance(node, ast.ImportFrom, name)
                package, inner = node.module.split(".")
                self.assertEqual((package, node.level), ("roundswap", 0), name)
                self.assertEqual({alias.name for alias in node.names} - defined_in(inner), set(), name)

    def test_l16_no_circles_of_imports(self):
        above = {name: {node.module.split(".")[1] for node in imports_of(name)} for name in sources()}
        while above:
            free = [name for name in above if not above[name] & set(above)]
            self.assertTrue(free, above)
            for name in free:
                del above[name]

    def test_l3_module_level(self):
        allowed = (ast.FunctionDef, ast.ClassDef, ast.ImportFrom, ast.Assign)
        for name, text in sources().items():
            docstring, *body = ast.parse(text).body
            self.assertIsInstance(docstring.value.value, str, name)
            for node in body:
                self.assertIsInstance(node, allowed, name)
                if isinstance(node, ast.Assign):
                    self.assertEqual([type(one) for one in node.targets], [ast.Name], name)
                    above = {one.name for one in body if isinstance(one, ast.FunctionDef) and one.lineno < node.lineno}
                    names = {one.id for one in ast.walk(node.value) if isinstance(one, ast.Name)}
                    self.assertEqual(names - above, set(), name)
                    calls = [one for one in ast.walk(node.value) if isinstance(one, (ast.Call, ast.Attribute))]
                    self.assertEqual(calls, [], name)

    def test_l4_l5_decorators_and_special_methods(self):
        for at, node in nodes((ast.FunctionDef, ast.ClassDef)):
            decorators = [ast.unparse(one) for one in node.decorator_list]
            self.assertRegex(" ".join(decorators), r"^(|property|[a-z_]+\.setter|staticmethod|classmethod)$", at)
            self.assertTrue(not node.name.startswith("__") or node.name in SPECIAL_METHODS, at)

    def test_l5_names_of_properties_and_class_methods(self):
        methods, stored = methods_and_attributes()
        functions = own_methods()
        marked = {(part.name, ast.unparse(part.decorator_list[0]).split(".")[-1].replace("setter", "property"))
                  for part in functions if part.decorator_list}
        taken = {part.name for part in functions if not part.decorator_list} | stored | class_values() | METHODS
        for name, decorator in marked:
            self.assertNotIn(name, taken)
            self.assertEqual({other for one, other in marked if one == name}, {decorator})

    def test_l5_no_method_is_read_off_a_class(self):
        # Otherwise no property could have the name of an attribute of an error.
        classes = {node.name for at, node in nodes(ast.ClassDef)}
        for at, node in nodes(ast.Attribute):
            if isinstance(node.value, ast.Name) and node.value.id in classes:
                self.assertIn(node.attr, class_values(), at)

    def test_l6_statements(self):
        allowed = (ast.FunctionDef, ast.ClassDef, ast.ImportFrom, ast.Assign, ast.AugAssign, ast.If, ast.While, ast.For,
                   ast.Return, ast.Break, ast.Continue, ast.Pass, ast.Raise, ast.Delete, ast.Try, ast.Expr)
        for at, node in nodes(ast.stmt):
            self.assertIsInstance(node, allowed, at)
            if isinstance(node, ast.Expr) and not isinstance(node.value, (ast.Call, ast.Yield, ast.YieldFrom)):
                self.assertIsInstance(node.value.value, str, at)

    def test_l6_finally_only_assigns_names_and_literals(self):
        for at, node in nodes(ast.Try):
            for part in node.finalbody:
                self.assertIsInstance(part, ast.Assign, at)
                self.assertIsInstance(part.value, (ast.Name, ast.Constant), at)

    def test_l7_generators_stand_nowhere_as_expressions(self):
        self.assertEqual(nodes(ast.GeneratorExp), [])

    def test_l13_lambdas(self):
        lines = [at for at, node in nodes(ast.Lambda)]
        self.assertEqual(len(lines), len(set(lines)))

    def test_l7_expressions(self):
        self.assertEqual([at for at, node in nodes(ast.Constant) if isinstance(node.value, float)], [])
        self.assertEqual(nodes(ast.Div), [])
        for at, node in nodes(ast.Call):
            if isinstance(node.func, ast.Name) and node.func.id in LIST_TAKERS:
                self.assertEqual([one for one in node.args if isinstance(one, ast.GeneratorExp)], [], at)

    def test_l8_builtins(self):
        for at, node in nodes(ast.Name):
            if hasattr(builtins, node.id):
                self.assertIn(node.id, BUILTINS, at)
                self.assertIsInstance(node.ctx, ast.Load, at)
        for at, node in nodes(ast.arg):
            self.assertFalse(hasattr(builtins, node.arg), at)

    def test_l10_sizes(self):
        for name, text in sources().items():
            self.assertLess(len(text.splitlines()), 400, name)
            self.assertLessEqual(max(len(line) for line in text.splitlines()), 120, name)
        for at, node in nodes(ast.FunctionDef):
            self.assertLessEqual(node.end_lineno - node.lineno + 1, 40, at)

    def test_l12_l17_names(self):
        names = [(at, node.id) for at, node in nodes(ast.Name)] + [(at, node.arg) for at, node in nodes(ast.arg)]
        names += [(at, node.attr) for at, node in nodes(ast.Attribute)]
        names += [(at, node.name) for at, node in nodes((ast.FunctionDef, ast.ClassDef))]
        for at, name in names:
            self.assertNotIn(name, BARRED_NAMES, at)
            self.assertTrue(not name.startswith("_") or SPECIAL.fullmatch(name), (at, name))
        for name, text in sources().items():
            self.assertIsNone(BARRED_WORDS.search(text), name)

    def test_l15_one_binding_for_each_name(self):
        values = class_values()
        for name, text in sources().items():
            body = ast.parse(text).body
            imported = [alias.name for node in imports_of(name) for alias in node.names]
            bound = imported + sorted(names_bound(body))
            self.assertEqual(len(bound), len(set(bound)), name)
            classes = {node.name for node in body if isinstance(node, ast.ClassDef)}
            inner = {one.arg for one in ast.walk(ast.parse(text)) if isinstance(one, ast.arg)}
            inner |= {one.id for node in body if isinstance(node, (ast.FunctionDef, ast.ClassDef))
                      for one in ast.walk(node) if isinstance(one, ast.Name) and isinstance(one.ctx, ast.Store)}
            self.assertEqual(inner & (classes | set(imported)) - values, set(), name)

    def test_l18_no_name_is_a_method_and_an_attribute(self):
        methods, stored = methods_and_attributes()
        self.assertEqual(methods & stored, set())
        plain = {part.name for part in own_methods() if not part.decorator_list}
        self.assertEqual(plain & attributes_of_errors(), set())

    def test_l19_handlers_name_own_errors(self):
        own = {name.split(".")[0] for name in defined_in("errors")}
        for at, node in nodes(ast.ExceptHandler):
            names = node.type.elts if isinstance(node.type, ast.Tuple) else [node.type]
            self.assertEqual({ast.unparse(name) for name in names} - own, set(), at)

    def test_l19_raise_makes_its_error(self):
        own = {name.split(".")[0] for name in defined_in("errors")}
        for at, node in nodes(ast.Raise):
            if node.exc is not None:
                self.assertIsInstance(node.exc, ast.Call, at)
                self.assertIn(ast.unparse(node.exc.func), own, at)

    def test_l20_is(self):
        for at, node in nodes(ast.Compare):
            for sign, right in zip(node.ops, node.comparators):
                if isinstance(sign, (ast.Is, ast.IsNot)):
                    self.assertIn(ast.unparse(right), ("None", "True", "False"), at)

    def test_l22_calls_pass_what_functions_take(self):
        functions = {}
        for at, node in nodes(ast.Module):
            functions |= {part.name: part.args for part in node.body if isinstance(part, ast.FunctionDef)}
        for at, node in nodes(ast.Call):
            starred = any(isinstance(one, ast.Starred) for one in node.args)
            if isinstance(node.func, ast.Name) and node.func.id in functions and not starred:
                takes = functions[node.func.id]
                least = len(takes.args) - len(takes.defaults)
                given = len(node.args) + len(node.keywords)
                known = {one.arg for one in takes.args + takes.kwonlyargs}
                self.assertLessEqual(least, given, at)
                self.assertLessEqual(given, len(known), at)
                self.assertEqual({one.arg for one in node.keywords} - known, set(), at)

    def test_l22_keywords_of_builtins(self):
        allowed = {"sorted": {"key", "reverse"}, "min": {"key", "default"}, "max": {"key", "default"},
                   "sum": {"start"}, "enumerate": {"start"}, "zip": {"strict"}}
        for at, node in nodes(ast.Call):
            if isinstance(node.func, ast.Name) and node.func.id in BUILTINS:
                self.assertEqual({one.arg for one in node.keywords} - allowed.get(node.func.id, set()), set(), at)

    def test_l23_loops_do_not_change_what_they_iterate_over(self):
        changing = {"append", "clear", "extend", "insert", "pop", "remove", "reverse", "setdefault", "update", "sort"}
        for at, loop in nodes(ast.For):
            iterated = {ast.unparse(loop.iter)}
            if isinstance(loop.iter, ast.Call):
                name = ast.unparse(loop.iter.func).split(".")[-1]
                if name in ("enumerate", "zip", "reversed"):
                    iterated |= {ast.unparse(one) for one in loop.iter.args}
                if name in ("items", "keys", "values"):
                    iterated.add(ast.unparse(loop.iter.func.value))
            for node in [one for part in loop.body for one in ast.walk(part)]:
                if isinstance(node, ast.Call) and isinstance(node.func, ast.Attribute) and node.func.attr in changing:
                    self.assertNotIn(ast.unparse(node.func.value), iterated, at)
                if isinstance(node, (ast.Subscript, ast.Name, ast.Attribute)) and not isinstance(node.ctx, ast.Load):
                    changed = node.value if isinstance(node, ast.Subscript) else node
                    self.assertNotIn(ast.unparse(changed), iterated, at)

    def test_l23_no_other_function_has_the_name_of_a_generator(self):
        functions = [node for at, node in nodes(ast.FunctionDef)]
        yielding = [one.name for one in functions
                    if any(isinstance(node, (ast.Yield, ast.YieldFrom)) for node in ast.walk(one))]
        names = [one.name for one in functions]
        self.assertEqual([name for name in yielding if names.count(name) > 1], [])

    def test_l23_iterated_on_the_spot(self):
        for at, node in nodes((ast.Assign, ast.Return)):
            if isinstance(node.value, ast.Call):
                called = ast.unparse(node.value.func).split(".")[-1]
                self.assertNotIn(called, NOT_STORED, at)

    def test_l24_no_sets(self):
        self.assertEqual(nodes((ast.Set, ast.SetComp)), [])
        self.assertEqual([at for at, node in nodes(ast.Name) if node.id in ("set", "frozenset")], [])

    def test_l25_methods(self):
        methods, stored = methods_and_attributes()
        known = METHODS | methods | stored | class_values() | attributes_of_errors() | {"setter"}
        for at, node in nodes(ast.Attribute):
            self.assertIn(node.attr, known, at)

    def test_l27_no_powers(self):
        self.assertEqual(nodes(ast.Pow), [])

    def test_l27_strings(self):
        for at, node in nodes(ast.Constant):
            if isinstance(node.value, str):
                self.assertNotIn("%", node.value, at)
        self.assertEqual([at for at, node in nodes(ast.Name) if node.id == "chr"], [])
