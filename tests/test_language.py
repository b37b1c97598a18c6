"""The rules of the Python subset, as far as a test can see them simply (L1 to L28)."""

import ast
import builtins
import importlib
import pathlib
import re
import unittest

PACKAGE = pathlib.Path(__file__).resolve().parent.parent / "truemill"
FILES = sorted(PACKAGE.rglob("*.py"))

# Allowed to be called, or used as a base class (L8); `print` and `chr` are barred (L9, L27).
BUILTINS = set("""
    len range enumerate zip min max sum abs sorted reversed int str bool list tuple dict set
    isinstance ord repr any all divmod ValueError
""".split())
# What may be imported from Python's own library (L2), as far as the package needs it.
HEAP_NAMES = {"heappush", "heappop"}
# The methods of Python's own values that may be called (L25), without the additional ones.
METHODS = set("""
    append clear copy count endswith extend find get index insert isalnum isalpha isdigit islower
    isspace isupper items join keys ljust lower lstrip partition pop remove replace reverse rfind
    rjust rpartition rsplit rstrip setdefault split splitlines startswith strip update upper values
    zfill bit_length add discard
""".split())
BARRED_NAMES = set("""
    register mro elements open input law version_info with_traceback add_note compile copyright
    delattr dir eval exec exit gc getattr globals hasattr help id importlib license locals os quit
    setattr super type vars sys
""".split())
BARRED_WORDS = re.compile(
    r"\b(type|typing|enum|Enum|IntEnum|StrEnum|Flag|IntFlag|Generic|Protocol|ABC|namedtuple"
    r"|NamedTuple|TypedDict|abstractmethod)\b|dataclass|overload|contextmanager")
BARRED_NODES = (
    ast.Global, ast.AsyncFunctionDef, ast.AsyncFor, ast.AsyncWith, ast.Await, ast.Div, ast.Import,
    ast.SetComp, ast.GeneratorExp,
)
# What the document's interface lists, beside the errors.
INTERFACE = {
    "paths": "is_segment is_path is_folder lies_in is_pattern matches",
    "trees": "make_tree name_at members subtree moved_into overlay",
    "changes": "difference apply_changes reverse_changes compose_changes merge_changes",
    "store": "Store text_fault",
    "lexer": "tokens",
    "parser": "parse",
    "writer": "without_places write",
    "evaluator": "evaluate",
    "tools": "run_tool lines_of",
    "keys": "key_text read_key claim_text read_claim",
    "graph": "make_graph action_of build_order closure users affected",
    "clean": "clean_build graph_of",
    "roster": "Roster words_of",
    "link": "Link",
    "floor": "Floor",
    "cache": "Cache good_claim look_up",
    "build": "Build",
    "mill": "Mill",
    "records": "record_of check_record replay_record",
    "journal": "Journal replay",
}
# The methods that the interface lists for a class, which the class itself must define.
METHODS_OF = {
    "store": ("Store", "put text has name_of names lose pin unpin pins sweep put_tree texts_of"),
    "roster": ("Roster", "add houses sign revoke is_revoked counts tell claim_of has_voice vouchers strikes"),
    "link": ("Link", "send again word state can_send take"),
    "floor": ("Floor", "hire ask drop jobs turn out take workers"),
    "cache": ("Cache", "put entry lose spoil topics"),
    "build": ("Build", "change status key_of tell recall forget orders"),
    "mill": ("Mill", "graph tree sources want wanted turn status key_of hand evidence accepted_keys asked"),
    "journal": ("Journal", "act deeds look"),
}


def own_names(trees):
    """Return the names of all functions, methods and classes of the package."""
    names = set()
    for tree in trees:
        for node in ast.walk(tree):
            if isinstance(node, (ast.FunctionDef, ast.ClassDef)):
                names.add(node.name)
    return names


def docstrings(tree):
    """Return the nodes of a file's docstrings."""
    found = []
    for node in ast.walk(tree):
        if isinstance(node, (ast.Module, ast.ClassDef, ast.FunctionDef)) and node.body:
            first = node.body[0]
            if isinstance(first, ast.Expr) and isinstance(first.value, ast.Constant):
                found.append(first.value)
    return found


class LanguageTests(unittest.TestCase):
    @classmethod
    def setUpClass(cls):
        cls.texts = {path: path.read_text(encoding="utf-8") for path in FILES}
        cls.trees = {path: ast.parse(text) for path, text in cls.texts.items()}
        cls.own = own_names(cls.trees.values())

    def nodes(self, *kinds):
        for path, tree in self.trees.items():
            for node in ast.walk(tree):
                if isinstance(node, kinds):
                    yield path.name, node

    def test_files(self):
        self.assertIn(PACKAGE / "__init__.py", FILES)
        for path in PACKAGE.rglob("*"):
            if "__pycache__" not in path.parts:
                self.assertTrue(path.is_dir() or path.suffix == ".py", path)
                self.assertRegex(path.stem, "^[a-z0-9_]+$")
                self.assertNotIn("test", path.stem)

    def test_sizes(self):
        for path, text in self.texts.items():
            lines = text.split("\n")
            self.assertLessEqual(len(lines), 399, path)
            self.assertLessEqual(max(len(line) for line in lines), 120, path)
        for name, node in self.nodes(ast.FunctionDef):
            self.assertLessEqual(node.end_lineno - node.lineno + 1, 40, (name, node.name))

    def test_characters(self):
        for path, text in self.texts.items():
            self.assertTrue(all(sign == "\n" or " " <= sign <= "~" for sign in text), path)

    def test_imports(self):
        for name, node in self.nodes(ast.ImportFrom):
            self.assertEqual(node.level, 0, name)
            if node.module == "heapq":
                self.assertLessEqual({alias.name for alias in node.names}, HEAP_NAMES, name)
                self.assertEqual([alias.asname for alias in node.names], [None] * len(node.names), name)
                continue
            self.assertTrue(node.module.startswith("truemill."), (name, node.module))
            source = self.trees[PACKAGE / (node.module.split(".")[1] + ".py")]
            defined = {part.name for part in source.body if isinstance(part, (ast.FunctionDef, ast.ClassDef))}
            for alias in node.names:
                self.assertIsNone(alias.asname)
                self.assertIn(alias.name, defined, name)

    def test_imports_go_in_one_direction(self):
        needs = {path.stem: [] for path in FILES}
        for name, node in self.nodes(ast.ImportFrom):
            if node.module != "heapq":
                needs[name[:-3]].append(node.module.split(".")[1])
        while needs:
            free = [name for name in needs if not any(need in needs for need in needs[name])]
            self.assertTrue(free, needs)
            for name in free:
                del needs[name]

    def test_module_level(self):
        kinds = (ast.Expr, ast.ImportFrom, ast.FunctionDef, ast.ClassDef, ast.Assign)
        for path, tree in self.trees.items():
            bound = []
            for at, node in enumerate(tree.body):
                self.assertIsInstance(node, kinds, (path, node.lineno))
                if isinstance(node, ast.Expr):
                    self.assertEqual(at, 0, path)
                elif isinstance(node, ast.ImportFrom):
                    bound += [alias.name for alias in node.names]
                elif isinstance(node, ast.Assign):
                    ast.literal_eval(node.value)
                    bound += [target.id for target in node.targets]
                else:
                    bound.append(node.name)
            self.assertEqual(len(bound), len(set(bound)), path)

    def test_no_barred_statements_and_expressions(self):
        for name, node in self.nodes(*BARRED_NODES):
            self.fail((name, node.lineno, type(node).__name__))
        for name, node in self.nodes(ast.FunctionDef, ast.ClassDef):
            self.assertEqual(node.decorator_list, [], (name, node.name))

    def test_only_own_errors_are_caught(self):
        own = {node.name for node in self.trees[PACKAGE / "errors.py"].body if isinstance(node, ast.ClassDef)}
        for name, node in self.nodes(ast.Try):
            self.assertEqual((node.orelse, node.finalbody), ([], []), (name, node.lineno))
            for handler in node.handlers:
                self.assertIsInstance(handler.type, ast.Name, (name, node.lineno))
                self.assertIn(handler.type.id, own, (name, node.lineno))
                self.assertIsNone(handler.name, (name, node.lineno))
        for name, node in self.nodes(ast.Raise):
            self.assertIsInstance(node.exc, ast.Call, (name, node.lineno))
            self.assertIn(node.exc.func.id, own, (name, node.lineno))

    def test_patterns(self):
        for name, node in self.nodes(ast.Match):
            for case in node.cases:
                self.assertIsInstance(case.pattern, ast.MatchSequence, (name, node.lineno))
                for part in case.pattern.patterns:
                    self.assertIsInstance(part, (ast.MatchValue, ast.MatchAs), (name, node.lineno))

    def test_no_name_is_a_method_and_an_attribute(self):
        methods = {part.name for _, node in self.nodes(ast.ClassDef) for part in node.body if isinstance(part, ast.FunctionDef)}
        for name, node in self.nodes(ast.Attribute):
            if isinstance(node.ctx, ast.Store):
                self.assertNotIn(node.attr, methods, (name, node.lineno))

    def test_calls(self):
        for name, node in self.nodes(ast.Call):
            if isinstance(node.func, ast.Name):
                self.assertIn(node.func.id, BUILTINS | HEAP_NAMES | self.own, (name, node.lineno))
            else:
                self.assertIsInstance(node.func, ast.Attribute, (name, node.lineno))
                self.assertIn(node.func.attr, METHODS | self.own, (name, node.lineno))

    def test_names(self):
        for name, node in self.nodes(ast.Name, ast.arg, ast.FunctionDef, ast.ClassDef, ast.Attribute):
            word = getattr(node, "id", getattr(node, "arg", getattr(node, "name", getattr(node, "attr", ""))))
            self.assertNotIn(word, BARRED_NAMES, (name, node.lineno))
            if word.startswith("__"):
                self.assertEqual(word, "__init__", (name, node.lineno))
            if isinstance(node, ast.Name) and isinstance(node.ctx, ast.Store) or isinstance(node, ast.arg):
                self.assertNotIn(word, dir(builtins), (name, node.lineno))

    def test_no_local_name_is_a_class_or_an_import(self):
        for path, tree in self.trees.items():
            taken = {alias.name for node in tree.body if isinstance(node, ast.ImportFrom) for alias in node.names}
            taken |= {node.name for node in tree.body if isinstance(node, ast.ClassDef)}
            for node in ast.walk(tree):
                if isinstance(node, ast.arg):
                    self.assertNotIn(node.arg, taken, (path, node.lineno))
                if isinstance(node, ast.Name) and isinstance(node.ctx, ast.Store):
                    self.assertNotIn(node.id, taken, (path, node.lineno))

    def test_strings(self):
        for path, tree in self.trees.items():
            left_out = docstrings(tree)
            for node in ast.walk(tree):
                if isinstance(node, ast.Constant) and node not in left_out:
                    self.assertNotIsInstance(node.value, float, (path, node.lineno))
                    if isinstance(node.value, str):
                        self.assertNotIn("%", node.value, (path, node.lineno))
                        self.assertNotRegex(node.value, r"\._$|\.__$|^__.*__$", (path, node.lineno))
                        self.assertIsNone(BARRED_WORDS.search(node.value), (path, node.lineno))

    def test_classes(self):
        for name, node in self.nodes(ast.ClassDef):
            methods = [part.name for part in node.body if isinstance(part, ast.FunctionDef)]
            self.assertEqual(len(methods), len(set(methods)), (name, node.name))
            attributes = {part.attr for part in ast.walk(node)
                          if isinstance(part, ast.Attribute) and isinstance(part.ctx, ast.Store)}
            self.assertFalse(attributes & set(methods), (name, node.name))
            self.assertFalse(attributes & (METHODS - set("count index find get join copy add".split())))

    def test_the_interface_is_defined_in_its_files(self):
        for module, names in INTERFACE.items():
            found = importlib.import_module("truemill." + module)
            for name in names.split():
                self.assertEqual(getattr(found, name).__module__, "truemill." + module)

    def test_the_methods_are_defined_in_their_classes(self):
        for module, (kind, methods) in METHODS_OF.items():
            found = getattr(importlib.import_module("truemill." + module), kind)
            for name in methods.split():
                self.assertIn(name, vars(found), kind)


if __name__ == "__main__":
    unittest.main()
