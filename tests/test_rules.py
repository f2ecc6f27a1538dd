"""The rules for the language of the package, as far as a look at the code can tell."""

import ast
import builtins
import functools
import pathlib
import re
import unittest
import warnings

PACKAGE = pathlib.Path(__file__).resolve().parent.parent / "promiseplay"

ALLOWED_BUILTINS = set("""len range enumerate zip min max sum abs sorted reversed int str bool bytes list tuple dict set
    frozenset isinstance ord repr any all divmod pow iter next super property Exception ValueError TypeError KeyError
    IndexError LookupError ZeroDivisionError ArithmeticError OverflowError RuntimeError NotImplementedError
    AttributeError StopIteration NotImplemented map""".split())
LIBRARY = {"heapq": "heappush heappop heapify heapreplace heappushpop", "math": "gcd lcm isqrt comb perm factorial",
           "itertools": "product combinations permutations chain accumulate pairwise islice zip_longest",
           "collections": "defaultdict deque"}
BUILTIN_METHODS = set("""append clear copy count endswith extend find get index insert isalnum isalpha isdigit islower
    isspace isupper items join keys ljust lower lstrip partition pop remove replace reverse rfind rjust rpartition
    rsplit rstrip setdefault split splitlines startswith strip update upper values zfill bit_length add discard
    sort""".split())
MODIFIERS = set("append clear extend insert pop remove reverse setdefault update add discard sort".split())
FORBIDDEN_NAMES = set("""mro elements open input law version_info with_traceback add_note register attrgetter
    breakpoint builtins compile copyright credits delattr dir eval exec exit gc getattr globals hasattr help id
    importlib license locals methodcaller os quit setattr type vars sys""".split())
FORBIDDEN_WORDS = re.compile(r"\b(type|typing|typing_extensions|enum|Enum|IntEnum|StrEnum|Flag|IntFlag|Generic|Protocol|"
                             r"ABC|ABCMeta|namedtuple|NamedTuple|TypedDict|TYPE_CHECKING|abstractmethod)\b|"
                             r"dataclass|overload|contextmanager|_wall|_WallAttr")


@functools.lru_cache(maxsize=None)
def modules():
    return {path.stem: (path.read_text(encoding="utf-8"), ast.parse(path.read_text(encoding="utf-8")))
            for path in sorted(PACKAGE.glob("*.py"))}


def functions(tree):
    return [node for node in ast.walk(tree) if isinstance(node, (ast.FunctionDef, ast.Lambda))]


def bound_names(function):
    """The parameters and local variables of a function, those of its comprehensions too."""
    arguments = function.args
    found = [a.arg for a in arguments.posonlyargs + arguments.args + arguments.kwonlyargs]
    for node in ast.walk(function):
        if isinstance(node, ast.Name) and isinstance(node.ctx, (ast.Store, ast.Del)):
            found.append(node.id)
    return found


def base_of(node):
    """The text of what a modification changes: xs in xs[k], self.rows in self.rows[k]."""
    while isinstance(node, ast.Subscript):
        node = node.value
    return ast.unparse(node)


class Files(unittest.TestCase):
    def test_only_python_files(self):
        for path in PACKAGE.iterdir():
            if path.name != "__pycache__":
                self.assertTrue(path.is_file() and re.fullmatch(r"[a-z0-9_]+\.py", path.name), path)
        self.assertLessEqual(len(modules()), 100)
        self.assertIn("__init__", modules())

    def test_sizes_and_characters(self):
        for name, (text, tree) in modules().items():
            lines = text.split("\n")
            self.assertLessEqual(len(lines), 400, name)
            self.assertTrue(all(len(line) <= 120 for line in lines), name)
            self.assertTrue(all(character == "\n" or " " <= character <= "~" for character in text), name)
            for function in functions(tree):
                self.assertLessEqual(function.end_lineno - function.lineno + 1, 40, (name, function.lineno))

    def test_no_warnings(self):
        with warnings.catch_warnings():
            warnings.simplefilter("error")
            for name, (text, _) in modules().items():
                compile(text, name, "exec")

    def test_words(self):
        for name, (text, tree) in modules().items():
            code = ast.unparse(tree)
            self.assertIsNone(FORBIDDEN_WORDS.search(code), name)
            for node in ast.walk(tree):
                if isinstance(node, ast.Constant) and isinstance(node.value, str):
                    self.assertNotIn("%", node.value, name)
                    self.assertNotIn("__", node.value, name)
                self.assertFalse(isinstance(node, ast.Constant) and isinstance(node.value, (float, complex)), name)

    def test_docstrings(self):
        for name, (_, tree) in modules().items():
            for node in ast.walk(tree):
                if isinstance(node, (ast.Module, ast.ClassDef, ast.FunctionDef)):
                    if getattr(node, "name", "") != "__init__":
                        self.assertIsNotNone(ast.get_docstring(node), (name, getattr(node, "name", "")))


class Imports(unittest.TestCase):
    def test_forms(self):
        defined = {}
        for name, (_, tree) in modules().items():
            defined[name] = {node.name for node in tree.body if isinstance(node, (ast.FunctionDef, ast.ClassDef))}
            for node in tree.body:
                if isinstance(node, ast.Assign):
                    defined[name].add(node.targets[0].id)
        graph = {}
        for name, (_, tree) in modules().items():
            graph[name] = set()
            used = {node.id for node in ast.walk(tree) if isinstance(node, ast.Name)}
            for node in ast.walk(tree):
                self.assertNotIsInstance(node, ast.Import, name)
                if isinstance(node, ast.ImportFrom):
                    self.assertIn(node, tree.body)
                    self.assertEqual(node.level, 0)
                    for alias in node.names:
                        self.assertIsNone(alias.asname)
                        self.assertIn(alias.name, used, (name, alias.name))
                        if node.module in LIBRARY:
                            self.assertIn(alias.name, LIBRARY[node.module].split())
                        else:
                            package, module = node.module.split(".")
                            self.assertEqual(package, "promiseplay")
                            self.assertIn(alias.name, defined[module], (name, alias.name))
                            graph[name].add(module)
        while graph:
            free = [name for name, needed in graph.items() if not needed & set(graph)]
            self.assertTrue(free, f"files import each other: {sorted(graph)}")
            for name in free:
                del graph[name]


class Names(unittest.TestCase):
    def test_each_module(self):
        for name, (_, tree) in modules().items():
            top = []
            for node in tree.body:
                if isinstance(node, ast.ImportFrom):
                    top.extend(alias.name for alias in node.names)
                elif isinstance(node, (ast.FunctionDef, ast.ClassDef)):
                    top.append(node.name)
                elif isinstance(node, ast.Assign):
                    self.assertEqual(len(node.targets), 1)
                    top.append(node.targets[0].id)
                else:
                    self.assertTrue(isinstance(node, ast.Expr) and isinstance(node.value, ast.Constant), name)
            self.assertEqual(len(top), len(set(top)), name)
            barred = {alias.name for node in tree.body if isinstance(node, ast.ImportFrom) for alias in node.names}
            barred |= {node.name for node in tree.body if isinstance(node, ast.ClassDef)}
            for given in top:
                self.assertFalse(hasattr(builtins, given), (name, given))
                self.assertNotIn(given, FORBIDDEN_NAMES)
            for function in functions(tree):
                for given in bound_names(function):
                    self.assertFalse(hasattr(builtins, given), (name, given))
                    self.assertNotIn(given, FORBIDDEN_NAMES, name)
                    self.assertNotIn(given, barred, name)
            for node in ast.walk(tree):
                if isinstance(node, ast.Name) and isinstance(node.ctx, ast.Load):
                    self.assertNotEqual(node.id, "_", (name, node.lineno))
                    if hasattr(builtins, node.id):
                        self.assertIn(node.id, ALLOWED_BUILTINS, (name, node.lineno))

    def test_attributes_and_methods(self):
        methods, attributes = set(), set()
        for name, (_, tree) in modules().items():
            for node in ast.walk(tree):
                if isinstance(node, ast.ClassDef):
                    own = [item.name for item in node.body if isinstance(item, ast.FunctionDef)]
                    self.assertEqual(len(own), len(set(own)))
                    given = {inner.attr for inner in ast.walk(node)
                             if isinstance(inner, ast.Attribute) and isinstance(inner.ctx, ast.Store)}
                    self.assertFalse(given & set(own), (name, node.name))
                    methods |= set(own)
                    attributes |= given
        self.assertFalse(attributes & BUILTIN_METHODS - set("count index find get join lower upper split strip copy add".split()))
        for name, (_, tree) in modules().items():
            for node in ast.walk(tree):
                if isinstance(node, ast.Call) and isinstance(node.func, ast.Attribute):
                    self.assertIn(node.func.attr, methods | BUILTIN_METHODS, (name, node.lineno))
                elif isinstance(node, ast.Attribute) and isinstance(node.ctx, ast.Load):
                    self.assertIn(node.attr, methods | attributes | BUILTIN_METHODS, (name, node.lineno))


class Statements(unittest.TestCase):
    def test_forms(self):
        barred = (ast.AsyncFunctionDef, ast.Global, ast.Div, ast.MatMult, ast.Starred, ast.GeneratorExp, ast.Yield,
                  ast.YieldFrom, ast.Await, ast.Lambda, ast.Set, ast.SetComp, ast.AnnAssign, ast.NamedExpr, ast.Match)
        for name, (_, tree) in modules().items():
            for node in ast.walk(tree):
                self.assertNotIsInstance(node, barred, (name, getattr(node, "lineno", 0)))
                if isinstance(node, (ast.FunctionDef, ast.ClassDef)):
                    for decorator in node.decorator_list:
                        self.assertEqual(ast.unparse(decorator), "property")
                if isinstance(node, ast.FunctionDef):
                    for default in node.args.defaults + [k for k in node.args.kw_defaults if k is not None]:
                        self.assertTrue(isinstance(ast.literal_eval(default), (int, str, tuple, type(None))))
                    self.assertTrue(node.returns is None and all(a.annotation is None for a in node.args.args))
                if isinstance(node, ast.BinOp) and isinstance(node.op, ast.Pow):
                    self.assertIsInstance(node.right, ast.Constant)
                if isinstance(node, (ast.Is, ast.IsNot)):
                    pass
                if isinstance(node, ast.Compare):
                    for sign, side in zip(node.ops, node.comparators):
                        if isinstance(sign, (ast.Is, ast.IsNot)):
                            self.assertIn(ast.unparse(side), ("None", "True", "False"))
                if isinstance(node, ast.Raise):
                    self.assertIsInstance(node.exc, ast.Call)

    def test_what_a_loop_goes_over_stays(self):
        for name, (_, tree) in modules().items():
            for loop in ast.walk(tree):
                if isinstance(loop, ast.For):
                    over = {ast.unparse(node) for node in ast.walk(loop.iter) if isinstance(node, (ast.Name, ast.Attribute))}
                    for node in [inner for row in loop.body for inner in ast.walk(row)]:
                        changed = []
                        if isinstance(node, ast.Call) and isinstance(node.func, ast.Attribute):
                            if node.func.attr in MODIFIERS:
                                changed.append(node.func.value)
                        if isinstance(node, (ast.Subscript, ast.Attribute)) and isinstance(node.ctx, (ast.Store, ast.Del)):
                            changed.append(node.value if isinstance(node, ast.Subscript) else node)
                        for target in changed:
                            self.assertNotIn(base_of(target), over - {"self"}, (name, node.lineno))


class Interface(unittest.TestCase):
    HERE = {
        "words": "make_lasso letter_at suffix relabel combine first_difference",
        "formulas": "normal_form temporal_count signal_names", "parsing": "parse_property",
        "printing": "format_property", "truth": "holds truth_word", "buchi": "Automaton accepts find_word",
        "operations": "union intersection hide widen trim",
        "parity": "ParityAutomaton accepts_parity complement_parity quotient to_buchi",
        "determinization": "determinize", "comparison": "complement included equivalent", "translation": "translate",
        "description": "describe", "games": "Game distances choices_win", "solving": "Solution solve",
        "machines": "Machine respond trace", "plays": "play", "minimization": "minimize separating_word",
        "machinetext": "format_machine parse_machine", "specs": "Spec satisfies dual spec_automaton",
        "spectext": "format_spec parse_spec", "synthesis": "Verdict synthesize", "checking": "breaking_word",
        "prospects": "prospects", "monitors": "Monitor", "journals": "Journal recover",
        "certificates": "write_certificate audit", "congruence": "separating_context exponent",
        "expressions": "matches contains expression_automaton automaton_expression", "smallest": "smallest_system",
        "sight": "visible lifted completion synthesize_sighted",
        "priced": "PricedGame needs purse_plan plan_works free_needs means",
        "paying": "PricedVerdict synthesize_priced money_trouble is_short",
        "faults": "fault_trouble borne true_word synthesize_bearing",
        "reasons": "share cores keepable_parts helps is_honest",
        "circuits": "Circuit circuit_of machine_of first_difference_of", "tidying": "is_tidy tidied",
        "circuittext": "format_circuit parse_circuit", "watches": "Table watch forecast patience machine_watch",
        "joint": "joined joint_system", "switching": "safe_pairs switch_trouble switched alike_pairs",
        "shields": "is_safe freedom Shield", "simpler": "is_simple simplified", "workshop": "Workshop replayed rescued",
    }
    METHODS = {("machines", "Machine"): "__call__", ("specs", "Spec"): "signals", ("monitors", "Monitor"): "verdict read",
               ("journals", "Journal"): "hear said", ("circuits", "Circuit"): "__call__",
               ("shields", "Shield"): "say", ("workshop", "Workshop"): "answer journal"}
    PROPERTIES = "signals verdict said"

    def test_names_are_defined_in_their_files(self):
        for module, names in self.HERE.items():
            tree = modules()[module][1]
            defined = {node.name for node in tree.body if isinstance(node, (ast.FunctionDef, ast.ClassDef))}
            self.assertLessEqual(set(names.split()), defined)

    def test_methods_stand_in_their_classes(self):
        for (module, name), methods in self.METHODS.items():
            for node in modules()[module][1].body:
                if isinstance(node, ast.ClassDef) and node.name == name:
                    own = {item.name: item for item in node.body if isinstance(item, ast.FunctionDef)}
                    for method in methods.split():
                        self.assertEqual(len(own[method].decorator_list), method in self.PROPERTIES.split())

    def test_names_of_properties_are_used_for_nothing_else(self):
        taken = []
        for _, (_, tree) in modules().items():
            for node in ast.walk(tree):
                if isinstance(node, ast.FunctionDef) and not node.decorator_list:
                    taken.append(node.name)
                if isinstance(node, ast.Attribute) and isinstance(node.ctx, ast.Store):
                    taken.append(node.attr)
        self.assertFalse(set(self.PROPERTIES.split()) & set(taken))
