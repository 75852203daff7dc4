"""More of the rules of the package's language, each told by its number; see also test_form.py."""

import ast
import builtins
import keyword
import re
import unittest

from tests.test_form import package_files, text_of

ALLOWED_BUILTINS = """len range enumerate zip min max sum abs sorted reversed int str bool bytes list tuple dict set
isinstance ord repr any all divmod Exception ValueError TypeError KeyError IndexError LookupError ZeroDivisionError
super""".split()
ALLOWED_METHODS = """append clear copy count endswith extend find get index insert isalnum isalpha isdigit islower
isspace isupper items join keys ljust lower lstrip partition pop remove replace reverse rfind rjust rpartition rsplit
rstrip setdefault split splitlines startswith strip update upper values zfill bit_length""".split()
ALLOWED_DOUBLE = ["__init__", "__eq__", "__len__", "__repr__", "__str__"]
BARRED_NAMES = """mro elements open input law version_info with_traceback add_note register attrgetter breakpoint
builtins compile copyright credits delattr dir eval exec exit gc getattr globals hasattr help id importlib license
locals methodcaller os quit setattr type vars sys""".split()
BARRED_WORDS = """type typing typing_extensions enum Enum IntEnum StrEnum Flag IntFlag Generic Protocol ABC ABCMeta
namedtuple NamedTuple TypedDict TYPE_CHECKING abstractmethod""".split()
SCOPES = (ast.FunctionDef, ast.Lambda)


def trees():
    return {name: ast.parse(text_of(name)) for name in package_files()}


def with_parents(tree):
    """All nodes, each with the one that it stands in."""
    return [(child, node) for node in ast.walk(tree) for child in ast.iter_child_nodes(node)]


def own_functions(tree):
    return [node for node in ast.walk(tree) if isinstance(node, ast.FunctionDef)]


def own_classes(tree):
    return [node for node in ast.walk(tree) if isinstance(node, ast.ClassDef)]


def own_methods():
    found = set()
    for tree in trees().values():
        for node in own_classes(tree):
            found |= {part.name for part in node.body if isinstance(part, ast.FunctionDef)}
    return found


def own_attributes():
    return {node.attr for tree in trees().values() for node in ast.walk(tree)
            if isinstance(node, ast.Attribute) and isinstance(node.ctx, ast.Store)}


def imported(tree):
    return [part.name for node in tree.body if isinstance(node, ast.ImportFrom) for part in node.names]


def bound_names(node):
    """The names that a function gives a meaning to: parameters, targets, and those of its comprehensions."""
    names = [part for part in ast.walk(node) if isinstance(part, ast.Name) and isinstance(part.ctx, ast.Store)]
    return {part.id for part in names} | {part.arg for part in ast.walk(node) if isinstance(part, ast.arg)}


def is_plain(node):
    if isinstance(node, ast.Constant):
        return True
    if isinstance(node, ast.Tuple):
        return all(is_plain(part) for part in node.elts)
    if isinstance(node, ast.UnaryOp):
        return is_plain(node.operand)
    return isinstance(node, ast.BinOp) and is_plain(node.left) and is_plain(node.right)


def is_call_of(node, *names):
    return isinstance(node, ast.Call) and isinstance(node.func, ast.Name) and node.func.id in names


class LanguageTest(unittest.TestCase):
    def check_all(self, wrong_in):
        for name, tree in trees().items():
            with self.subTest(name=name):
                self.assertEqual(list(wrong_in(tree)), [])

    def test_l3_module_level(self):
        def wrong(tree):
            for at, node in enumerate(tree.body):
                plain = isinstance(node, ast.Assign) and len(node.targets) == 1 and is_plain(node.value)
                text = at == 0 and isinstance(node, ast.Expr) and isinstance(node.value, ast.Constant)
                if not plain and not text and not isinstance(node, (ast.ImportFrom, ast.FunctionDef, ast.ClassDef)):
                    yield node.lineno
        self.check_all(wrong)

    def test_l4_no_decorators_and_plain_defaults(self):
        def wrong(tree):
            for node in own_functions(tree) + own_classes(tree):
                if node.decorator_list:
                    yield node.lineno
            for node in own_functions(tree):
                defaults = node.args.defaults + [part for part in node.args.kw_defaults if part]
                if not all(is_plain(part) for part in defaults):
                    yield node.lineno
        self.check_all(wrong)

    def test_l5_methods_with_two_underscores(self):
        def wrong(tree):
            for node in own_functions(tree):
                if node.name.startswith("__") and node.name not in ALLOWED_DOUBLE:
                    yield node.name
                if node.name == "__len__":
                    returned = [part.value for part in ast.walk(node) if isinstance(part, ast.Return)]
                    if not all(is_call_of(part, "len") for part in returned):
                        yield node.name
        self.check_all(wrong)

    def test_l8_builtins(self):
        def wrong(tree):
            known = {node.name for node in own_functions(tree) + own_classes(tree)} | set(imported(tree))
            known |= bound_names(tree)
            for node in ast.walk(tree):
                if isinstance(node, ast.Name) and node.id not in known and node.id not in ALLOWED_BUILTINS:
                    yield node.id
        self.check_all(wrong)

    def test_l2_what_the_library_gives_is_only_called(self):
        def wrong(tree):
            names = [part.name for node in tree.body if isinstance(node, ast.ImportFrom)
                     and not node.module.startswith("nextalive") for part in node.names]
            called = [node.func for node in ast.walk(tree) if isinstance(node, ast.Call) and not node.keywords]
            for node in ast.walk(tree):
                if isinstance(node, ast.Name) and node.id in names and node not in called:
                    yield node.id
        self.check_all(wrong)

    def test_l12_names(self):
        def wrong(tree):
            names = [node.name for node in own_functions(tree) + own_classes(tree)] + list(bound_names(tree))
            names += [node.attr for node in ast.walk(tree) if isinstance(node, ast.Attribute)]
            for name in names:
                fine = re.fullmatch(r"_?[A-Za-z][A-Za-z0-9_]*|_", name) or name in ALLOWED_DOUBLE
                if not fine or keyword.iskeyword(name) or name.startswith(("_wall", "_pe_", "_law_", "_sre")):
                    yield name
            for node in ast.walk(tree):
                if isinstance(node, ast.Name) and node.id == "_" and isinstance(node.ctx, ast.Load):
                    yield node.lineno
        self.check_all(wrong)

    def test_l15_each_name_once(self):
        def wrong(tree):
            top = imported(tree)
            top += [node.name for node in tree.body if isinstance(node, (ast.FunctionDef, ast.ClassDef))]
            top += [part.id for node in tree.body if isinstance(node, ast.Assign) for part in node.targets]
            yield from sorted({name for name in top if top.count(name) > 1})
            hidden = set(imported(tree)) | {node.name for node in own_classes(tree)}
            for node in own_functions(tree):
                yield from sorted(bound_names(node) & hidden)
                names = bound_names(node) | {node.name} - set(ALLOWED_DOUBLE)
                yield from sorted(name for name in names if hasattr(builtins, name))
        self.check_all(wrong)

    def test_l16_no_file_imports_itself_through_others(self):
        needs = {name[:-len(".py")]: [node.module.rpartition(".")[2] for node in tree.body
                                      if isinstance(node, ast.ImportFrom) and node.module.startswith("nextalive.")]
                 for name, tree in trees().items()}
        defined = {}
        for name, tree in trees().items():
            values = [part.id for node in tree.body if isinstance(node, ast.Assign) for part in node.targets]
            defined[name[:-len(".py")]] = values + [node.name for node in tree.body if hasattr(node, "name")]
        for name in needs:
            reached = list(needs[name])
            for other in reached:
                reached += [more for more in needs[other] if more not in reached]
            self.assertNotIn(name, reached)
        for name, tree in trees().items():
            for node in tree.body:
                if isinstance(node, ast.ImportFrom) and node.module.startswith("nextalive."):
                    for part in node.names:
                        self.assertIn(part.name, defined[node.module.rpartition(".")[2]], name)

    def test_l17_names_and_words(self):
        def wrong(tree):
            for node in ast.walk(tree):
                names = [getattr(node, "id", None), getattr(node, "arg", None), getattr(node, "name", None)]
                yield from [name for name in names if name in BARRED_NAMES + BARRED_WORDS]
        self.check_all(wrong)

    def test_l18_no_name_is_a_method_and_an_attribute(self):
        self.assertEqual(own_methods() & own_attributes(), set())

    def test_l18_attributes_that_are_read_are_assigned(self):
        known = own_methods() | own_attributes() | set(ALLOWED_METHODS)
        self.check_all(lambda tree: [node.attr for node in ast.walk(tree)
                                     if isinstance(node, ast.Attribute) and node.attr not in known])

    def test_l20_is(self):
        def wrong(tree):
            for node in ast.walk(tree):
                if isinstance(node, ast.Compare) and any(isinstance(part, (ast.Is, ast.IsNot)) for part in node.ops):
                    if not all(isinstance(part, ast.Constant) for part in node.comparators):
                        yield node.lineno
        self.check_all(wrong)

    def test_l23_ranges_and_the_like_are_iterated_at_once(self):
        def wrong(tree):
            for node, parent in with_parents(tree):
                views = isinstance(node, ast.Call) and isinstance(node.func, ast.Attribute) \
                    and node.func.attr in ("items", "keys", "values")
                if views or is_call_of(node, "range", "zip", "enumerate", "reversed", "permutations", "combinations"):
                    over = isinstance(parent, (ast.For, ast.comprehension)) and parent.iter is node
                    if not over and not is_call_of(parent, "list", "tuple", "sorted", "permutations", "combinations"):
                        yield node.lineno
        self.check_all(wrong)

    def test_l23_what_a_loop_goes_over_is_not_changed_in_it(self):
        changing = ("append", "clear", "extend", "insert", "pop", "remove", "reverse", "setdefault", "update")
        def wrong(tree):
            for loop in ast.walk(tree):
                over = {ast.dump(part) for part in ast.walk(loop.iter)} if isinstance(loop, ast.For) else set()
                for node in [part for row in loop.body for part in ast.walk(row)] if over else []:
                    called = node.func if isinstance(node, ast.Call) else None
                    if isinstance(called, ast.Attribute) and called.attr in changing:
                        if ast.dump(called.value) in over:
                            yield node.lineno
        self.check_all(wrong)

    def test_l24_sets_stand_in_sorted_and_len_and_comparisons(self):
        def wrong(tree):
            for node, parent in with_parents(tree):
                if isinstance(node, (ast.Set, ast.SetComp)) or is_call_of(node, "set", "frozenset"):
                    if not isinstance(parent, ast.Compare) and not is_call_of(parent, "sorted", "len"):
                        yield node.lineno
        self.check_all(wrong)

    def test_l25_methods_of_builtin_values(self):
        known = own_methods() | set(ALLOWED_METHODS)
        def wrong(tree):
            for node in ast.walk(tree):
                if isinstance(node, ast.Call) and isinstance(node.func, ast.Attribute) and node.func.attr not in known:
                    yield node.func.attr
        self.check_all(wrong)

    def test_l26_own_methods_and_attributes(self):
        taken = {name for kind in (int, str, list, dict, set, bytes, tuple) for name in dir(kind)}
        names = {name for name in own_methods() | own_attributes() if not name.startswith("__")}
        self.assertEqual(names & taken, set())

    def test_l27_strings_and_powers(self):
        def wrong(tree):
            texts = [node.value for node in ast.walk(tree) if isinstance(node, ast.Constant)]
            yield from [text for text in texts if isinstance(text, str) and ("%" in text or "__" in text)]
            for node in ast.walk(tree):
                if isinstance(node, ast.BinOp) and isinstance(node.op, ast.Pow):
                    if not isinstance(node.right, ast.Constant) or not 0 <= node.right.value <= 64:
                        yield node.lineno
        self.check_all(wrong)

    def test_no_function_is_nested_and_nothing_yields_or_is_caught(self):
        kinds = (ast.Yield, ast.YieldFrom, ast.Try, ast.Global, ast.Nonlocal, ast.GeneratorExp, ast.NamedExpr, ast.With)
        def wrong(tree):
            for node in ast.walk(tree):
                inner = [part for part in ast.walk(node) if isinstance(part, SCOPES) and part is not node]
                if isinstance(node, kinds) or (inner and isinstance(node, SCOPES)):
                    yield node.lineno
        self.check_all(wrong)


if __name__ == "__main__":
    unittest.main()
