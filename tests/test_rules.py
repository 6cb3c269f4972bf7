"""The rules for the package's files, as far as a short script can check them."""

import ast
import builtins
import os
import re
import unittest

HERE = os.path.dirname(os.path.abspath(__file__))
PACKAGE = os.path.join(HERE, "..", "lastpasted")

BUILTINS = set("""len range enumerate zip min max sum abs sorted reversed int str bool bytes list tuple dict set
    frozenset isinstance ord repr any all divmod pow getattr hasattr setattr iter next map Exception ValueError
    TypeError KeyError IndexError LookupError ZeroDivisionError ArithmeticError OverflowError RuntimeError
    NotImplementedError AttributeError StopIteration NotImplemented super property staticmethod classmethod""".split())
# A doctest run leaves a "_" among them.
ALL_BUILTINS = set(vars(builtins)) - {"_"}
METHODS = set("""append clear copy count endswith extend find get index insert isalnum isalpha isdigit islower isspace
    isupper items join keys ljust lower lstrip partition pop remove replace reverse rfind rjust rpartition rsplit
    rstrip setdefault split splitlines startswith strip update upper values zfill bit_length sort add discard
    format __init__""".split())
LIBRARY = {
    "heapq": {"heappush", "heappop", "heapify", "heapreplace", "heappushpop"},
    "math": {"gcd", "lcm", "isqrt", "comb", "perm", "factorial"},
    "itertools": {"product", "combinations", "permutations", "chain", "accumulate", "pairwise", "islice",
                  "zip_longest"},
    "collections": {"defaultdict"},
}
ORDER = """__init__ errors forms bills cases latest sure pairs stacks looks lost anew shown column hands wrong board
    texts desk""".split()
NOWHERE = set("""register mro elements open input law version_info with_traceback add_note""".split())
NO_NAMES = set("""attrgetter breakpoint builtins compile copyright credits delattr dir eval exec exit gc globals help
    id importlib license locals methodcaller os quit type vars sys __name__""".split())
NO_WORDS = set("""typing typing_extensions enum Enum IntEnum StrEnum Flag IntFlag Generic Protocol ABC ABCMeta
    namedtuple NamedTuple TypedDict TYPE_CHECKING abstractmethod type _wall _WallAttr""".split())
STATEMENTS = (ast.FunctionDef, ast.ClassDef, ast.Return, ast.Delete, ast.Assign, ast.AugAssign, ast.For, ast.While,
              ast.If, ast.With, ast.Match, ast.Raise, ast.Try, ast.Assert, ast.ImportFrom, ast.Nonlocal, ast.Expr,
              ast.Pass, ast.Break, ast.Continue)
TAKES_LISTS = ("any", "all", "min", "max", "sum", "sorted")


def file_names():
    return sorted(name for name in os.listdir(PACKAGE) if name != "__pycache__")


def sources():
    for name in file_names():
        with open(os.path.join(PACKAGE, name), "rb") as stream:
            yield name, stream.read().decode("ascii")


def trees():
    for name, text in sources():
        yield name, text, ast.parse(text)


def bound_in(node):
    """Every name that is given a meaning anywhere below the node."""
    for part in ast.walk(node):
        if isinstance(part, ast.Name) and not isinstance(part.ctx, ast.Load):
            yield part.id
        elif isinstance(part, ast.arg):
            yield part.arg
        elif isinstance(part, (ast.FunctionDef, ast.ClassDef)):
            yield part.name
        elif isinstance(part, ast.alias):
            yield part.name


def docstrings(tree):
    for node in ast.walk(tree):
        if isinstance(node, (ast.Module, ast.FunctionDef, ast.ClassDef)) and ast.get_docstring(node) is not None:
            yield node.body[0].value


def parents(tree):
    return {child: node for node in ast.walk(tree) for child in ast.iter_child_nodes(node)}


class Files(unittest.TestCase):
    def test_folder(self):
        self.assertIn("__init__.py", file_names())
        for name in file_names():
            self.assertRegex(name, r"\A([a-z][a-z0-9_]*|__init__|__main__)\.py\Z")
            self.assertNotIn(name[:-3], ALL_BUILTINS)
            self.assertNotRegex(name, r"\A(law_.*|tests?|testing|test_.*|site|conftest|sitecustomize)\.py\Z")
        self.assertLessEqual(len(file_names()), 100)

    def test_characters_and_sizes(self):
        for name, text in sources():
            self.assertRegex(text, r"\A[ -~\n]*\Z", name)
            self.assertTrue(text.endswith("\n"), name)
            lines = text.split("\n")
            self.assertLessEqual(len(lines) - 1, 399, name)
            self.assertLessEqual(max(len(line) for line in lines), 120, name)

    def test_functions_are_short(self):
        for name, _, tree in trees():
            for node in ast.walk(tree):
                if isinstance(node, ast.FunctionDef):
                    self.assertLessEqual(node.end_lineno - node.lineno + 1, 40, f"{name}: {node.name}")


class Imports(unittest.TestCase):
    def test_imports(self):
        files = {f"lastpasted.{name[:-3]}": tree for name, _, tree in trees()}
        for name, _, tree in trees():
            for node in ast.walk(tree):
                self.assertNotIsInstance(node, ast.Import, name)
                if isinstance(node, ast.ImportFrom):
                    self.check_import(files, name, tree, node)

    def check_import(self, files, name, tree, node):
        self.assertIn(node, tree.body)
        self.assertEqual(node.level, 0, name)
        for alias in node.names:
            self.assertIsNone(alias.asname, name)
            if node.module in LIBRARY:
                self.assertIn(alias.name, LIBRARY[node.module], name)
            else:
                self.assertIn(node.module, files, name)
                defined = [word for part in files[node.module].body if not isinstance(part, ast.ImportFrom)
                           for word in bound_in(part)]
                self.assertIn(alias.name, defined, name)

    def test_no_circles(self):
        needs = {
            f"lastpasted.{name[:-3]}": [node.module for node in tree.body if isinstance(node, ast.ImportFrom)]
            for name, _, tree in trees()
        }
        while needs:
            free = [name for name in needs if not any(other in needs for other in needs[name])]
            self.assertTrue(free, f"these import from each other: {sorted(needs)}")
            for name in free:
                del needs[name]

    def test_each_file_needs_only_those_ahead_of_it(self):
        ahead = []
        trees_of = {name[:-3]: tree for name, _, tree in trees()}
        self.assertEqual(sorted(ORDER), sorted(trees_of))
        for name in ORDER:
            for node in trees_of[name].body:
                if isinstance(node, ast.ImportFrom) and node.module not in LIBRARY:
                    self.assertIn(node.module.split(".")[1], ahead, name)
            ahead.append(name)

    def test_what_is_imported_is_used(self):
        for name, _, tree in trees():
            read = {node.id for node in ast.walk(tree) if isinstance(node, ast.Name)}
            for node in tree.body:
                if isinstance(node, ast.ImportFrom):
                    for alias in node.names:
                        self.assertIn(alias.name, read, name)


class Statements(unittest.TestCase):
    def test_module_level(self):
        for name, _, tree in trees():
            bound = [word for node in tree.body for word in self.top_names(name, node)]
            self.assertEqual(len(bound), len(set(bound)), name)
            kinds = [isinstance(node, ast.ImportFrom) for node in tree.body if not isinstance(node, ast.Expr)]
            self.assertEqual(kinds, sorted(kinds, reverse=True), f"{name}: imports stand at the top")

    def top_names(self, name, node):
        if isinstance(node, (ast.FunctionDef, ast.ClassDef)):
            return [node.name]
        if isinstance(node, ast.ImportFrom):
            return [alias.name for alias in node.names]
        if isinstance(node, ast.Assign):
            self.assertEqual(len(node.targets), 1, name)
            ast.literal_eval(node.value)
            return [node.targets[0].id]
        self.assertIsInstance(node.value.value, str, name)
        return []

    def test_kinds_of_statements(self):
        for name, _, tree in trees():
            for node in ast.walk(tree):
                place = f"{name}:{getattr(node, 'lineno', 0)}"
                if isinstance(node, ast.stmt):
                    self.assertIsInstance(node, STATEMENTS, place)
                self.assertNotIsInstance(node, (ast.Await, ast.Div), place)
                if isinstance(node, ast.FunctionDef):
                    self.assertIsNone(node.returns, place)
                if isinstance(node, ast.arg):
                    self.assertIsNone(node.annotation, place)
                if isinstance(node, ast.Constant):
                    self.assertNotIsInstance(node.value, (float, complex), place)

    def test_strings(self):
        for name, _, tree in trees():
            told = list(docstrings(tree))
            for node in ast.walk(tree):
                if isinstance(node, ast.Constant) and isinstance(node.value, str):
                    self.assertNotIn("%", node.value, name)
                    self.assertNotRegex(node.value, r"(\._|\.__)\Z", name)
                    if node not in told:
                        self.assertNotRegex(node.value, r"\A__.*__\Z", name)

    def test_sets_stand_where_they_may(self):
        for name, _, tree in trees():
            above = parents(tree)
            for node in ast.walk(tree):
                made = isinstance(node, ast.Call) and isinstance(node.func, ast.Name) and node.func.id == "set"
                if made or isinstance(node, (ast.Set, ast.SetComp)):
                    self.assertTrue(self.set_may_stand(above[node]), f"{name}:{node.lineno}")

    def set_may_stand(self, holder):
        if isinstance(holder, ast.Call):
            return isinstance(holder.func, ast.Name) and holder.func.id in ("sorted", "len") and not holder.keywords
        return isinstance(holder, (ast.Compare, ast.Assign, ast.BinOp))

    def test_generator_expressions(self):
        # Board has an __eq__: in such a package these take lists.
        for name, _, tree in trees():
            for node in ast.walk(tree):
                if isinstance(node, ast.Call) and isinstance(node.func, ast.Name) and node.func.id in TAKES_LISTS:
                    for part in node.args:
                        self.assertNotIsInstance(part, ast.GeneratorExp, f"{name}:{node.lineno}")


class Classes(unittest.TestCase):
    def test_methods_with_double_underscores(self):
        for name, _, tree in trees():
            for node in ast.walk(tree):
                if isinstance(node, ast.FunctionDef) and node.name.startswith("__"):
                    self.assertIn(node.name, ("__init__", "__len__", "__contains__", "__eq__"), name)

    def test_only_own_errors_are_caught(self):
        for name, _, tree in trees():
            own = [alias.name for node in tree.body if isinstance(node, ast.ImportFrom)
                   and node.module == "lastpasted.errors" for alias in node.names]
            for node in ast.walk(tree):
                if isinstance(node, ast.ExceptHandler):
                    self.assertIn(node.type.id, own, f"{name}:{node.lineno}")

    def test_inner_comprehensions_have_names_of_their_own(self):
        comprehensions = (ast.ListComp, ast.SetComp, ast.DictComp)
        for name, _, tree in trees():
            for node in ast.walk(tree):
                if isinstance(node, comprehensions):
                    outer = self.targets(node)
                    for inner in ast.walk(node):
                        if isinstance(inner, comprehensions) and inner is not node:
                            self.assertFalse(outer & self.targets(inner), f"{name}:{inner.lineno}")

    def targets(self, node):
        return {word for part in node.generators for word in bound_in(part.target)} - {"_"}


class Names(unittest.TestCase):
    def test_builtins(self):
        for name, _, tree in trees():
            for node in ast.walk(tree):
                if isinstance(node, ast.Name) and node.id in ALL_BUILTINS:
                    self.assertIn(node.id, BUILTINS, f"{name}:{node.lineno}")

    def test_methods(self):
        own = {part.name for _, _, tree in trees() for node in tree.body if isinstance(node, ast.ClassDef)
               for part in node.body if isinstance(part, ast.FunctionDef)}
        for name, _, tree in trees():
            for node in ast.walk(tree):
                if isinstance(node, ast.Call) and isinstance(node.func, ast.Attribute):
                    self.assertIn(node.func.attr, METHODS | own, f"{name}:{node.lineno}")

    def test_names(self):
        for name, _, tree in trees():
            for word in bound_in(tree):
                self.assertNotIn(word, ALL_BUILTINS, name)
                self.assertNotIn(word, NOWHERE | NO_NAMES, name)
                self.assertRegex(word, r"\A(_?[A-Za-z][A-Za-z0-9_]*|_|__[a-z]+__)\Z", name)

    def test_no_name_hides_an_import_or_a_class(self):
        for name, _, tree in trees():
            taken = [alias.name for node in tree.body if isinstance(node, ast.ImportFrom) for alias in node.names]
            taken += [node.name for node in tree.body if isinstance(node, ast.ClassDef)]
            for node in tree.body:
                if isinstance(node, (ast.FunctionDef, ast.ClassDef)):
                    inner = [word for part in node.body + [getattr(node, "args", node)]
                             for word in bound_in(part) if part is not node]
                    self.assertFalse(set(inner) & set(taken), f"{name}: {node.name}")

    def test_blank_is_not_read(self):
        for name, _, tree in trees():
            for node in ast.walk(tree):
                if isinstance(node, ast.Name) and node.id == "_":
                    self.assertIsInstance(node.ctx, ast.Store, f"{name}:{node.lineno}")

    def test_words(self):
        for name, text, tree in trees():
            for node in docstrings(tree):
                text = text.replace(node.value, "")
            code = re.sub(r"#.*", "", text)
            self.assertFalse(set(re.findall(r"\w+", code)) & (NO_WORDS | NOWHERE), name)
            self.assertNotRegex(code, "dataclass|overload|contextmanager|metaclass", name)


if __name__ == "__main__":
    unittest.main()
