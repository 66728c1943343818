"""The rules of LANGUAGE.md that a small script can see, over the files of the package."""
import ast
import builtins
import importlib
import inspect
import io
import keyword
import re
import tokenize
import unittest
import warnings
from pathlib import Path

PACKAGE = Path(__file__).resolve().parent.parent / "witnesslog"
FILES = sorted(PACKAGE.glob("*.py"))
TEXTS = {path: path.read_text(encoding="utf-8") for path in FILES}
TREES = {path: ast.parse(text) for path, text in TEXTS.items()}

# The modules in the order of the interface, with their names and parameters.
INTERFACE = [
    ("errors", []),
    ("rows", ["is_literal many thing", "is_row many thing", "normal many sums bound", "total many row",
              "opposite many row", "is_impossible many row", "holds many row filling", "covers many one other"]),
    ("fillings", ["is_filling many thing", "worth many literal filling", "fillings many", "where many rows"]),
    ("witnesses", ["is_witness many thing", "led_literal many witness literal", "led_row many witness row",
                   "led_filling many witness filling", "behind many one other", "is_exchange many thing",
                   "turned many exchange"]),
    ("problems", ["Problem many rows price", "price_of problem filling", "is_plan problem thing", "plans problem",
                  "least_plans problem", "prices_to problem number"]),
    ("derivations", ["derived many named derivation", "is_derivation many named thing"]),
    ("papers", ["results many named paper", "is_paper many named goal thing", "flat many named paper"]),
    ("proving", ["clause_of many row literals", "is_refutation many named thing", "refutation many rows",
                 "follows many rows goal", "least_of many rows terms"]),
    ("trimming", ["needed many named paper", "trimmed many named paper", "exchanged many named paper witness"]),
    ("following", ["slack many row literals", "forced many row literals", "followed many rows literals",
                   "refuted_by_following many rows", "known_by_following many rows row",
                   "followed_by many rows literals picks"]),
    ("trails", ["is_trail many rows thing", "is_whole many rows thing", "trail_of many rows choices",
                "levels many rows trail", "literals_to many rows trail level", "reason_row many rows trail spot",
                "reason_paper many rows trail spot", "clash_paper many rows literals"]),
    ("leaning", ["leans many rows filling", "leaning many rows", "nearest many rows filling",
                 "short_plan many rows"]),
    ("learning", ["cut_down many row literals literal", "cut_instructions many row literals literal",
                  "resolved many clash reason literals literal", "back_level many rows trail row",
                  "is_learned many rows trail thing", "learned many rows trail", "shortened many rows row"]),
    ("going_back", ["is_new many rows row", "gone_back many rows trail row", "settled many rows choices"]),
    ("orders", ["is_order many thing", "no_later many order first second", "strictly_earlier many order first second",
                "rows_at many order first second", "rows_along many order", "is_sound many order",
                "soundness many order", "is_by_sums many order", "papers_by_sums many order",
                "lexicographic many literals", "by_weights many terms", "both many one other",
                "led_order many order exchange"]),
    ("earliest", ["earliest many order several", "way_down many order several start"]),
    ("goals", ["witness_goals many known price order row witness", "dominance_goals many core price order row witness",
               "strict_rows many order witness", "unmet many known row goals"]),
    ("judge", ["Judge problem", "judged problem log", "is_log problem thing"]),
    ("back", ["left judge", "led_back judge filling"]),
    ("meaning", ["core_fillings judge", "known_fillings judge", "is_kept judge", "is_proved judge", "floor judge"]),
    ("cuts", ["cuts problem log", "trimmed problem log", "renamed problem exchange",
              "renamed_log problem log exchange"]),
    ("redundance", ["pure_literals judge", "pure_steps judge literal", "covered_steps judge",
                    "blocked_literals judge row_id", "eliminated_steps judge variable", "defined_steps judge row",
                    "exchanged_steps judge literal other"]),
    ("pigeons", ["pigeons holes"]),
    ("dominance", ["exchange_of many one other", "is_preferred problem one other",
                   "is_plainly_preferred problem one other", "preference_rows problem literals",
                   "exchanged problem literals plan", "ranked problem literals", "lots_alike problem literals",
                   "chain_rows problem literals", "plan_lots problem literals", "plain_steps problem literals",
                   "preference_steps problem literals"]),
    ("choice", ["choice prices least", "choice_log prices least"]),
    ("likenesses", ["is_likeness problem thing", "likenesses problem", "closed many exchanges",
                    "generators many exchanges"]),
    ("lots", ["lot_of many exchanges filling", "keeping many exchanges filling", "lots problem exchanges",
              "kept_plans problem exchange"]),
    ("firsts", ["first_row many exchange", "first_rows many exchanges", "firsts problem exchanges",
                "to_first many exchanges filling", "likeness_steps problem exchanges"]),
    ("lorries", ["lorries loads count most", "next_exchanges loads count most", "lorry_log loads count most"]),
    ("guides", ["is_guide thing", "guide_to problem filling", "plain_guide guide"]),
    ("seeking", ["Search problem log", "clause many lot", "solve problem guide", "is_solved problem thing",
                 "solve_with problem assumed guide", "is_solved_with problem assumed thing"]),
    ("cores", ["tight_core problem assumed guide", "is_core problem assumed thing", "guarded groups",
               "guarded_log groups"]),
    ("counting", ["counting judge number"]),
    ("least", ["least problem ways guide", "is_least problem thing", "moments problem log"]),
    ("plainly", ["is_plain problem thing", "plain problem log"]),
    ("texts", ["problem_text problem", "problem_of text", "log_text log", "log_of text", "paper_text paper",
               "paper_of text", "begun text"]),
    ("desk", ["Desk many price"]),
    ("going", ["go_on problem log ways guide", "go_some problem log ways guide most", "relay problem hands"]),
]

# The methods that the interface lists for its classes, with their parameters.
CLASS_METHODS = {
    "Judge": ["core", "derived", "known", "order", "log", "step step", "copy", "__len__", "__eq__ other"],
    "Problem": ["__eq__ other"],
    "Search": ["choices", "trail", "reasons", "clash", "known", "log", "judge", "is_closed", "found", "choose literal",
               "learn", "forget number", "restart", "take"],
    "Desk": ["put row", "assume literal", "enter", "leave", "ask ways guide", "problem", "core guide", "level", "rows",
             "assumed", "deeds", "copy", "bounds", "__eq__ other"],
}

# What the package takes of the library; it is only called, by its bare name.
LIBRARY = {"heapq": ["heappop", "heappush"], "math": ["gcd"]}

BUILTINS = """len range enumerate zip min max sum abs sorted reversed int str bool list tuple dict set isinstance ord
repr any all divmod Exception ValueError TypeError KeyError IndexError""".split()

METHODS = """append clear copy count endswith extend find get index insert isalnum isalpha isdigit islower isspace
isupper items join keys ljust lower lstrip partition pop remove replace reverse rfind rjust rpartition rsplit rstrip
setdefault split splitlines startswith strip update upper values zfill bit_length""".split()

NEVER_NAMES = """register mro elements open input law version_info with_traceback add_note attrgetter breakpoint
compile copyright credits delattr dir eval exec exit gc getattr globals hasattr help id importlib license locals
methodcaller os quit setattr super type vars sys""".split()

NEVER_WORDS = """type typing typing_extensions enum Enum IntEnum StrEnum Flag IntFlag Generic Protocol ABC ABCMeta
namedtuple NamedTuple TypedDict TYPE_CHECKING abstractmethod""".split()

STATEMENTS = (ast.Assign, ast.AugAssign, ast.If, ast.While, ast.For, ast.Return, ast.Break, ast.Continue, ast.Pass,
              ast.Raise, ast.Assert, ast.Delete, ast.Expr, ast.FunctionDef, ast.ClassDef, ast.ImportFrom)

# The package does without these, some of which the rules allow under conditions that are hard to see.
NEVER_NODES = (ast.Lambda, ast.GeneratorExp, ast.Yield, ast.YieldFrom, ast.Await, ast.JoinedStr, ast.NamedExpr,
               ast.Starred, ast.Div, ast.MatMult, ast.Global, ast.Nonlocal, ast.Try, ast.With, ast.AnnAssign)

DOUBLE = ("__init__", "__eq__", "__len__")


def own_names(tree):
    """All names that a file binds, with their nodes."""
    for node in ast.walk(tree):
        if isinstance(node, (ast.FunctionDef, ast.ClassDef)):
            yield node.name, node
        elif isinstance(node, ast.arg):
            yield node.arg, node
        elif isinstance(node, ast.Name) and not isinstance(node.ctx, ast.Load):
            yield node.id, node
        elif isinstance(node, ast.alias):
            yield node.asname or node.name, node
        elif isinstance(node, ast.keyword) and node.arg:
            yield node.arg, node


def module_names(tree):
    """What a file defines at module level, imports aside."""
    found = []
    for node in tree.body:
        if isinstance(node, (ast.FunctionDef, ast.ClassDef)):
            found.append(node.name)
        elif isinstance(node, ast.Assign):
            found.extend(target.id for target in node.targets)
    return found


def imports(tree):
    return [node for node in tree.body if isinstance(node, ast.ImportFrom)]


def is_docstring(node):
    return isinstance(node, ast.Expr) and isinstance(node.value, ast.Constant) and isinstance(node.value.value, str)


class LanguageTest(unittest.TestCase):
    def each(self):
        for path, tree in TREES.items():
            with self.subTest(path.name):
                yield path, tree

    def test_folder(self):
        names = [path.name for path in PACKAGE.iterdir() if path.name != "__pycache__"]
        self.assertEqual(sorted(names), [path.name for path in FILES])
        self.assertLessEqual(len(names), 100)
        for name in names:
            self.assertRegex(name, r"\A(__init__|[a-z][a-z0-9_]*)\.py\Z")
            self.assertTrue(name == "__init__.py" or not hasattr(builtins, name[:-3]))
            self.assertFalse(name.startswith(("law_", "test", "site", "conftest", "usercustomize")))
        self.assertEqual(TEXTS[PACKAGE / "__init__.py"], "")

    def test_characters_and_sizes(self):
        for path, tree in self.each():
            text = TEXTS[path]
            self.assertEqual([c for c in text if not (c == "\n" or " " <= c <= "~")], [])
            self.assertLessEqual(len(text.split("\n")) - 1, 399)
            self.assertEqual([line for line in text.split("\n") if len(line) > 120], [])
            for node in ast.walk(tree):
                if isinstance(node, ast.FunctionDef):
                    self.assertLessEqual(node.end_lineno - node.lineno + 1, 40, node.name)

    def test_no_warnings(self):
        for path, _ in self.each():
            with warnings.catch_warnings():
                warnings.simplefilter("error")
                compile(TEXTS[path], path.name, "exec")

    def test_module_level(self):
        for path, tree in self.each():
            behind_imports = False
            for place, node in enumerate(tree.body):
                if isinstance(node, ast.ImportFrom):
                    self.assertFalse(behind_imports)
                elif not (place == 0 and is_docstring(node)):
                    behind_imports = True
                    self.assertIsInstance(node, (ast.FunctionDef, ast.ClassDef, ast.Assign))
                if isinstance(node, ast.Assign):
                    self.assertEqual([type(target) for target in node.targets], [ast.Name])
                    ast.literal_eval(node.value)
            bound = module_names(tree) + [alias.name for node in imports(tree) for alias in node.names]
            self.assertEqual(len(bound), len(set(bound)))

    def test_imports(self):
        for path, tree in self.each():
            for node in ast.walk(tree):
                self.assertNotIsInstance(node, ast.Import)
                if isinstance(node, ast.ImportFrom):
                    self.assertIn(node, tree.body)
                    self.assertEqual(node.level, 0)
                    there = LIBRARY.get(node.module)
                    if there is None:
                        self.assertRegex(node.module, r"\Awitnesslog\.[a-z_]+\Z")
                        there = module_names(TREES[PACKAGE / (node.module.split(".")[1] + ".py")])
                    for alias in node.names:
                        self.assertIsNone(alias.asname)
                        self.assertIn(alias.name, there)
                        if node.module in LIBRARY:
                            self.assertEqual(self.uses_but_calls(tree, alias.name), 0)
                        used = [name.id for name in ast.walk(tree) if isinstance(name, ast.Name)]
                        self.assertIn(alias.name, used)

    def uses_but_calls(self, tree, name):
        """How often name is used, less how often it is called with arguments by position."""
        uses = [node for node in ast.walk(tree) if isinstance(node, ast.Name) and node.id == name]
        calls = [node for node in ast.walk(tree) if isinstance(node, ast.Call) and not node.keywords
                 and isinstance(node.func, ast.Name) and node.func.id == name]
        return len(uses) - len(calls)

    def test_imports_go_upwards(self):
        order = [name for name, _ in INTERFACE]
        reached = {}

        def reach(name):
            if name not in reached:
                reached[name] = None
                found = {name}
                for node in imports(TREES[PACKAGE / (name + ".py")]):
                    if node.module not in LIBRARY:
                        found |= reach(node.module.split(".")[1])
                reached[name] = found
            self.assertIsNotNone(reached[name], "files import from each other: " + name)
            return reached[name]

        for path in FILES:
            reach(path.stem)
        for place, name in enumerate(order):
            self.assertEqual([other for other in order[place + 1:] if other in reached[name]], [], name)

    def test_interface(self):
        for module, lines in INTERFACE:
            defined = {node.name: node for node in TREES[PACKAGE / (module + ".py")].body
                       if isinstance(node, (ast.FunctionDef, ast.ClassDef))}
            loaded = importlib.import_module("witnesslog." + module)
            for line in lines:
                name, *parameters = line.split()
                self.assertIn(name, defined)
                self.assertEqual(list(inspect.signature(getattr(loaded, name)).parameters), parameters, name)

    def test_methods(self):
        for path, tree in self.each():
            for node in tree.body:
                if isinstance(node, ast.ClassDef) and node.name in CLASS_METHODS:
                    own = {method.name: [one.arg for one in method.args.args] for method in node.body
                           if isinstance(method, ast.FunctionDef)}
                    for line in CLASS_METHODS[node.name]:
                        name, *parameters = line.split()
                        self.assertEqual(own.get(name), ["self"] + parameters, name)

    def test_no_method_is_an_attribute(self):
        for path, tree in self.each():
            for node in tree.body:
                if isinstance(node, ast.ClassDef):
                    methods = [method.name for method in node.body if isinstance(method, ast.FunctionDef)]
                    self.assertEqual(len(methods), len(set(methods)))
                    given = [at.attr for at in ast.walk(node) if isinstance(at, ast.Attribute)
                             and isinstance(at.ctx, ast.Store)]
                    self.assertEqual([name for name in methods if name in given], [])

    def test_no_class_has_a_method_that_is_an_attribute_of_another_one(self):
        methods, given = set(), set()
        for tree in TREES.values():
            for node in tree.body:
                if isinstance(node, ast.ClassDef):
                    methods |= {method.name for method in node.body if isinstance(method, ast.FunctionDef)}
                    given |= {at.attr for at in ast.walk(node) if isinstance(at, ast.Attribute)
                              and isinstance(at.ctx, ast.Store)}
        # These two the document gives to a class as a method and to another one as an attribute.
        self.assertEqual(sorted(methods & given), ["problem", "rows"])

    def test_no_method_is_read_off_a_class(self):
        classes = {node.name for tree in TREES.values() for node in tree.body if isinstance(node, ast.ClassDef)}
        for path, tree in self.each():
            for node in ast.walk(tree):
                if isinstance(node, ast.Attribute) and isinstance(node.value, ast.Name):
                    self.assertNotIn(node.value.id, classes)

    def test_lists_and_dicts_at_module_level_are_only_read(self):
        for path, tree in self.each():
            names = {node.targets[0].id for node in tree.body if isinstance(node, ast.Assign)
                     and isinstance(node.value, (ast.List, ast.Dict))}
            right = []
            for node in ast.walk(tree):
                if isinstance(node, ast.Subscript):
                    right.append(node.value)
                if isinstance(node, ast.Compare):
                    right.extend(node.comparators)
            for node in ast.walk(tree):
                if isinstance(node, ast.Name) and isinstance(node.ctx, ast.Load) and node.id in names:
                    self.assertIn(node, right, node.id)

    def test_names(self):
        for path, tree in self.each():
            for name, node in own_names(tree):
                if isinstance(node, ast.FunctionDef) and name in DOUBLE:
                    continue
                self.assertRegex(name, r"\A_?[A-Za-z][A-Za-z0-9_]*\Z|\A_\Z")
                self.assertFalse(keyword.iskeyword(name) or name in NEVER_NAMES, name)
                self.assertNotRegex(name, r"\A(_wall|_pe_|_dcw_|_enum_|_cm_|_twin_re_|_lay_|_law_|_stub_|_sre|"
                                          r"_WallAttr|_cold|_tuplegetter|_outside|_record|_written_out|_member_names)")
                if not isinstance(node, ast.keyword):
                    self.assertFalse(hasattr(builtins, name), name)
                if isinstance(node, ast.ClassDef):
                    self.assertRegex(name, r"\A[A-Za-z]")

    def test_no_local_has_the_name_of_a_class_or_an_import(self):
        for path, tree in self.each():
            barred = [alias.name for node in imports(tree) for alias in node.names]
            barred += [node.name for node in tree.body if isinstance(node, ast.ClassDef)]
            for name, node in own_names(tree):
                if isinstance(node, (ast.arg, ast.Name)):
                    self.assertNotIn(name, barred)

    def test_builtins_and_methods(self):
        own = [node.name for tree in TREES.values() for top in tree.body if isinstance(top, ast.ClassDef)
               for node in top.body if isinstance(node, ast.FunctionDef)]
        for path, tree in self.each():
            bound = {name for name, _ in own_names(tree)} | {"__init__"}
            for node in ast.walk(tree):
                if isinstance(node, ast.Name) and isinstance(node.ctx, ast.Load) and node.id not in bound:
                    self.assertIn(node.id, BUILTINS)
                if isinstance(node, ast.Call) and isinstance(node.func, ast.Attribute):
                    self.assertIn(node.func.attr, METHODS + own)
                if isinstance(node, ast.Call):
                    self.assertIsInstance(node.func, (ast.Name, ast.Attribute))

    def test_attributes(self):
        given = {node.attr for tree in TREES.values() for node in ast.walk(tree)
                 if isinstance(node, ast.Attribute) and isinstance(node.ctx, ast.Store)}
        methods = {node.func.attr for tree in TREES.values() for node in ast.walk(tree)
                   if isinstance(node, ast.Call) and isinstance(node.func, ast.Attribute)}
        for path, tree in self.each():
            for node in ast.walk(tree):
                if isinstance(node, ast.Attribute):
                    self.assertIn(node.attr, given | methods)
                    self.assertNotIn(node.attr, ("format", "format_map", "mro", "args", "sort"))

    def test_statements_and_expressions(self):
        for path, tree in self.each():
            for node in ast.walk(tree):
                self.assertNotIsInstance(node, NEVER_NODES)
                if isinstance(node, ast.stmt):
                    self.assertIsInstance(node, STATEMENTS)
                if isinstance(node, (ast.FunctionDef, ast.ClassDef)):
                    self.assertEqual(node.decorator_list, [])
                if isinstance(node, ast.Constant):
                    self.assertIn(type(node.value), (int, str, bool, type(None)))
                if isinstance(node, ast.BinOp) and isinstance(node.op, ast.Pow):
                    self.assertIsInstance(node.right, ast.Constant)
                    self.assertLessEqual(node.right.value, 64)
                if isinstance(node, (ast.Set, ast.SetComp)):
                    self.assertTrue(self.stands_in_len(tree, node))
                if isinstance(node, ast.Compare) and isinstance(node.ops[0], (ast.Is, ast.IsNot)):
                    self.assertIn(node.comparators[0].value, (None, True, False))
                if isinstance(node, ast.Raise):
                    self.assertIsInstance(node.exc, ast.Call)
                    self.assertIsNone(node.cause)

    def test_names_in_comprehensions(self):
        kinds = (ast.ListComp, ast.SetComp, ast.DictComp)
        for path, tree in self.each():
            for outer in ast.walk(tree):
                if isinstance(outer, kinds):
                    own = self.targets(outer)
                    for inner in ast.walk(outer):
                        if isinstance(inner, kinds) and inner is not outer:
                            self.assertEqual((self.targets(inner) & own) - {"_"}, set(), inner.lineno)

    def targets(self, comprehension):
        return {node.id for part in comprehension.generators for node in ast.walk(part.target)
                if isinstance(node, ast.Name)}

    def stands_in_len(self, tree, node):
        return any(isinstance(call, ast.Call) and isinstance(call.func, ast.Name) and call.func.id in ("len", "sorted")
                   and node in call.args for call in ast.walk(tree))

    def test_words(self):
        for path, tree in self.each():
            docs = {node.body[0].value.lineno for node in ast.walk(tree)
                    if isinstance(node, (ast.Module, ast.FunctionDef, ast.ClassDef)) and node.body
                    and is_docstring(node.body[0])}
            self.assertNotIn("_wall", TEXTS[path])
            self.assertNotIn("_WallAttr", TEXTS[path])
            for token in tokenize.generate_tokens(io.StringIO(TEXTS[path]).readline):
                if token.type == tokenize.COMMENT or token.start[0] in docs:
                    continue
                for word in re.findall(r"\w+", token.string):
                    self.assertNotIn(word, NEVER_WORDS)
                    self.assertNotRegex(word, "dataclass|overload|contextmanager")

    def test_strings(self):
        for path, tree in self.each():
            for node in ast.walk(tree):
                if isinstance(node, ast.Constant) and isinstance(node.value, str):
                    self.assertNotIn("%", node.value)
                    self.assertNotRegex(node.value, r"\A__.*__\Z|\._\Z|\.__\Z")
            self.assertNotIn("\\", TEXTS[path].replace("\\n", "").replace("\\t", ""))

    def test_what_is_gone_over_is_not_changed(self):
        for path, tree in self.each():
            for loop in ast.walk(tree):
                if isinstance(loop, ast.For):
                    over = {node.id for node in ast.walk(loop.iter) if isinstance(node, ast.Name)}
                    for node in ast.walk(loop):
                        if isinstance(node, ast.Call) and isinstance(node.func, ast.Attribute) \
                                and isinstance(node.func.value, ast.Name) and node.func.attr in (
                                    "append", "pop", "extend", "insert", "remove", "clear", "update", "setdefault"):
                            self.assertNotIn(node.func.value.id, over)


if __name__ == "__main__":
    unittest.main()
