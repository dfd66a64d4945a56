"""The rules of shared/LANGUAGE.md that a short test can see, and the interface of DOC.md as far as it is built."""

import ast
import builtins
import inspect
import pathlib
import unittest
from importlib import import_module

FOLDER = pathlib.Path(__file__).resolve().parent.parent / "goalsmith"
FILES = sorted(path for path in FOLDER.iterdir() if path.name != "__pycache__")
TREES = {path.stem: ast.parse(path.read_text(encoding="utf-8")) for path in FILES}

BUILTINS = (
    "len range enumerate zip min max sum abs sorted reversed int str bool list tuple dict set isinstance ord repr"
    " any all divmod map super Exception ValueError TypeError KeyError IndexError LookupError"
).split()
METHODS = (
    "append clear copy count endswith extend find get index insert isalnum isalpha isdigit islower isspace isupper"
    " items join keys ljust lower lstrip partition pop remove replace reverse rfind rjust rpartition rsplit rstrip"
    " setdefault split splitlines startswith strip update upper values zfill bit_length isascii add discard"
).split()
BARRED = (
    "register mro elements open input law version_info with_traceback add_note attrgetter breakpoint builtins compile"
    " copyright credits delattr dir eval exec exit gc getattr globals hasattr help id importlib license locals"
    " methodcaller os quit setattr type vars"
).split()
STATEMENTS = (ast.Global, ast.AsyncFunctionDef, ast.AsyncFor, ast.AsyncWith, ast.Await, ast.With, ast.Import)

INTERFACE = {
    "errors": {"SmithError": None, "NoGround": None, "NoText": None, "NoData": None, "TooMany": None, "TooFar": None,
               "NoRule": None, "NoGoal": None, "Fails": None, "NotFalling": None, "NoRewrite": None,
               "NoRow": "at", "BadText": "at", "Taken": "at", "NoName": "at", "Unfit": "at", "Left": "at goals"},
    "terms": {"is_term": "ground thing", "kind_of": "ground term", "signs_of": "thing", "names_of": "term"},
    "grounds": {"Ground": "kinds works"},
    "termtexts": {"show_term": "term", "show_ground": "ground", "read_term": "ground text", "read_ground": "text"},
    "data": {"is_data": "ground thing", "size_of": "data", "data_to": "ground kind most"},
    "reckoning": {"worth": "ground term most"},
    "sayings": {"is_saying": "ground thing", "is_body": "ground kind thing", "opened": "body term",
                "shut": "saying x kind", "put_in": "saying x kind term", "free_in": "sayings"},
    "sayingtexts": {"show": "saying", "read_saying": "ground text"},
    "truths": {"true_at": "ground saying filling", "true_in": "ground saying world filling"},
    "helds": {"Held": None},
    "kernel": {"Kernel": "ground"},
    "papers": {"laid_in": "paper parts", "leans": "paper", "cut": "paper"},
    "reader": {"read_paper": "ground lent paper"},
    "goals": {"goal_of": "ground given saying", "new_names": "goal things many"},
    "workers": {"Worker": None},
    "plainworkers": {"Given": "", "Alike": "", "Both": "", "First": "", "Second": "", "Suppose": "", "Fix": "", "Show": "term",
                     "Cut": "saying", "Contrary": "", "Absurd": "", "Apart": "number", "At": "number term",
                     "Put": "number kind body"},
    "order": {"is_greater": "ground one other"},
    "matching": {"fitting": "ground rule term", "filled": "term parts"},
    "rules": {"work_rules": "ground f", "held_rule": "ground held turned"},
    "resting": {"rewrites": "ground rules term", "rewritten": "ground rules term rewrite", "to_rest": "ground rules term most",
                "at_rest": "kernel sources term most", "Rewrite": "sources most"},
    "meets": {"meets": "ground rules", "come_together": "ground rules most"},
    "cases": {"ByCases": "saying", "ByMakers": "term"},
    "goingdown": {"Down": "x kind others"},
    "joined": {"Then": "one other", "Else": "one other", "Try": "one", "Each": "one workers", "Again": "one most",
               "Closed": "one"},
    "rows": {"row_against": "goal", "ByRows": ""},
    "finder": {"Finder": "workers tries"},
    "works": {"read_work": "ground text held", "names_named": "text"},
    "books": {"read_book": "text", "looked_through": "ground entries", "Book": None},
}
WORKERS = [
    (stem, word) for stem in ("plainworkers", "resting", "cases", "goingdown", "joined", "rows", "finder") for word in INTERFACE[stem]
    if word[0].isupper()
]
DEFAULTS = {
    ("reckoning", "worth"): {"most": 1000},
    ("rules", "held_rule"): {"turned": False},
    ("resting", "to_rest"): {"most": 100},
    ("resting", "at_rest"): {"most": 100},
    ("resting", "Rewrite"): {"most": 100},
    ("meets", "come_together"): {"most": 100},
}
CLASSES = {
    ("grounds", "Ground"): {
        "kinds": "", "works": "", "takes": "f", "gives": "f", "makers": "kind", "is_kind": "thing",
        "is_maker": "thing", "is_work": "thing", "is_open": "thing", "falls_at": "f", "rights": "f",
    },
    ("helds", "Held"): {"lent": "", "given": "", "saying": "", "paper": ""},
    ("kernel", "Kernel"): {
        "ground": "", "by_lent": "goal", "by_down": "helds kind body names", "by_paper": "paper lent",
        "laid": "held helds",
    },
    ("workers", "Worker"): {"work": "ground goal"},
    ("finder", "Finder"): {"tried": ""},
    ("books", "Book"): {
        "ground": "", "names": "", "saying": "name", "work": "name", "held": "name", "leans": "name", "shown": "",
        "entries": "",
    },
}
# The methods of a kernel by rules, with how many things each takes.
RULES = {
    "by_take": 1, "by_more": 2, "by_both": 2, "by_left": 1, "by_right": 1, "by_first": 2, "by_second": 2,
    "by_either": 3, "by_so": 2, "by_use": 2, "by_clash": 2, "by_deny": 2, "by_any": 2, "by_back": 2, "by_each": 3,
    "by_at": 2, "by_there": 4, "by_name": 3, "by_alike": 1, "by_put": 4, "by_equation": 1, "by_unlike": 2,
    "by_part": 2,
}


def functions(tree):
    return [node for node in ast.walk(tree) if isinstance(node, (ast.FunctionDef, ast.Lambda))]


def bound_names(tree):
    """All names that a file gives to parameters, variables, functions and classes."""
    names = [node.name for node in ast.walk(tree) if isinstance(node, (ast.FunctionDef, ast.ClassDef))]
    names += [node.arg for node in ast.walk(tree) if isinstance(node, ast.arg)]
    names += [node.id for node in ast.walk(tree) if isinstance(node, ast.Name) and isinstance(node.ctx, ast.Store)]
    return names


def class_values():
    """For each class the values that stand in its body, by their names."""
    found = []
    for tree in TREES.values():
        for node in tree.body:
            if isinstance(node, ast.ClassDef):
                found.append({target.id: part.value for part in node.body if isinstance(part, ast.Assign) for target in part.targets})
    return found


class TestLanguage(unittest.TestCase):
    def test_files(self):
        self.assertIn(FOLDER / "__init__.py", FILES)
        for path in FILES:
            self.assertRegex(path.name, r"\A[a-z_]+\.py\Z")
            text = path.read_text(encoding="utf-8")
            rows = text.split("\n")
            self.assertLessEqual(len(rows), 399, path)
            self.assertLessEqual(max(map(len, rows)), 120, path)
            self.assertTrue(all(sign == "\n" or " " <= sign <= "~" for sign in text), path)

    def test_functions(self):
        for stem, tree in TREES.items():
            for node in functions(tree):
                self.assertLessEqual(node.end_lineno - node.lineno + 1, 40, (stem, node.lineno))
                if isinstance(node, ast.FunctionDef):
                    self.assertEqual(node.decorator_list, [], (stem, node.lineno))

    def test_imports(self):
        needs = {}
        for stem, tree in TREES.items():
            needs[stem] = []
            for node in [node for node in tree.body if isinstance(node, ast.ImportFrom)]:
                package, dot, other = node.module.partition(".")
                self.assertEqual((package, dot, node.level), ("goalsmith", ".", 0))
                needs[stem].append(other)
                defined = [one for top in TREES[other].body for one in self.defined(top)]
                for alias in node.names:
                    self.assertIn(alias.name, defined, (stem, other))
                    self.assertIsNone(alias.asname)
        while needs:
            free = [stem for stem in needs if not any(other in needs for other in needs[stem])]
            self.assertNotEqual(free, [], "files import one another in a circle")
            for stem in free:
                del needs[stem]

    def defined(self, node):
        if isinstance(node, (ast.FunctionDef, ast.ClassDef)):
            return [node.name]
        return [target.id for target in node.targets] if isinstance(node, ast.Assign) else []

    def test_module_level(self):
        allowed = (ast.FunctionDef, ast.ClassDef, ast.ImportFrom, ast.Assign, ast.Expr)
        for stem, tree in TREES.items():
            for node in tree.body:
                self.assertIsInstance(node, allowed, stem)
                if isinstance(node, ast.Expr):
                    self.assertIsInstance(node.value, ast.Constant, stem)

    def test_statements_and_signs(self):
        for stem, tree in TREES.items():
            for node in ast.walk(tree):
                self.assertNotIsInstance(node, STATEMENTS, stem)
                self.assertNotIsInstance(node, (ast.Div, ast.Yield, ast.YieldFrom), stem)
                if isinstance(node, ast.Constant):
                    self.assertNotIsInstance(node.value, float, stem)
                    self.assertNotIn("%", str(node.value), stem)

    def test_errors_that_are_caught(self):
        own = self.defined_in("errors")
        for stem, tree in TREES.items():
            for node in ast.walk(tree):
                if isinstance(node, ast.Try):
                    self.assertEqual(node.finalbody, [], (stem, node.lineno))
                if isinstance(node, ast.ExceptHandler):
                    caught = node.type.elts if isinstance(node.type, ast.Tuple) else [node.type]
                    for one in caught:
                        self.assertIn(one.id, own, (stem, node.lineno))
                if isinstance(node, ast.Raise) and node.exc is not None:
                    self.assertIsInstance(node.exc, ast.Call, (stem, node.lineno))
                    self.assertIn(node.exc.func.id, own, (stem, node.lineno))

    def defined_in(self, stem):
        return [name for node in TREES[stem].body for name in self.defined(node)]

    def test_names(self):
        for stem, tree in TREES.items():
            imported = [alias.name for node in tree.body if isinstance(node, ast.ImportFrom) for alias in node.names]
            classes = [node.name for node in tree.body if isinstance(node, ast.ClassDef)]
            tops = [name for node in tree.body for name in self.defined(node)]
            self.assertEqual(len(tops + imported), len(set(tops + imported)), stem)
            for name in bound_names(tree):
                self.assertNotIn(name, BARRED, stem)
                self.assertNotIn(name, vars(builtins), stem)
                self.assertNotIn(name, imported, stem)
                self.assertRegex(name, r"\A(_?[A-Za-z][A-Za-z0-9_]*|_|__init__)\Z")
            for name in classes:
                self.assertRegex(name, r"\A[A-Z]")
                self.assertEqual(bound_names(tree).count(name), 1, (stem, name))

    def test_builtins(self):
        for stem, tree in TREES.items():
            for node in ast.walk(tree):
                if isinstance(node, ast.Name) and node.id in vars(builtins):
                    self.assertIn(node.id, BUILTINS, (stem, node.lineno))

    def test_methods(self):
        own = [node.name for tree in TREES.values() for node in ast.walk(tree) if isinstance(node, ast.FunctionDef)]
        for stem, tree in TREES.items():
            for node in ast.walk(tree):
                if isinstance(node, ast.Call) and isinstance(node.func, ast.Attribute):
                    self.assertIn(node.func.attr, METHODS + own, (stem, node.lineno))

    def test_attributes(self):
        stored, methods, read = [], [], []
        for tree in TREES.values():
            for node in ast.walk(tree):
                if isinstance(node, ast.Attribute):
                    (stored if isinstance(node.ctx, ast.Store) else read).append(node.attr)
                if isinstance(node, ast.ClassDef):
                    methods += [part.name for part in node.body if isinstance(part, ast.FunctionDef)]
        values = [name for told in class_values() for name in told]
        self.assertEqual(sorted(set(stored) & set(methods)), [])
        self.assertEqual(sorted(set(values) & set(stored + methods)), [])
        self.assertEqual(sorted(set(read) - set(stored) - set(methods) - set(METHODS) - set(values)), [])

    def test_class_values(self):
        for told in class_values():
            for name, value in told.items():
                self.assertRegex(name, r"\A[A-Z]+\Z")
                self.assertIsInstance(value, ast.Constant, name)


class TestInterface(unittest.TestCase):
    def arguments(self, what):
        return [word for word in inspect.signature(what).parameters if word != "self"]

    def test_names_and_arguments(self):
        for stem, told in INTERFACE.items():
            module = import_module(f"goalsmith.{stem}")
            tops = [name for node in TREES[stem].body for name in TestLanguage.defined(self, node)]
            for word, arguments in told.items():
                self.assertIn(word, tops)
                if arguments is not None:
                    self.assertEqual(self.arguments(getattr(module, word)), arguments.split(), word)

    def test_methods(self):
        for (stem, word), methods in CLASSES.items():
            told = vars(getattr(import_module(f"goalsmith.{stem}"), word))
            for method, arguments in methods.items():
                self.assertIn(method, told)
                self.assertEqual(self.arguments(told[method]), arguments.split(), method)

    def test_rules_of_kernels(self):
        told = vars(import_module("goalsmith.kernel").Kernel)
        for method, many in RULES.items():
            self.assertEqual(len(self.arguments(told[method])), many, method)

    def test_defaults(self):
        for stem, told in INTERFACE.items():
            for word in told:
                what = getattr(import_module(f"goalsmith.{stem}"), word)
                if told[word]:
                    parameters = inspect.signature(what).parameters
                    found = {name: one.default for name, one in parameters.items() if one.default is not one.empty}
                    self.assertEqual(found, DEFAULTS.get((stem, word), {}), word)

    def test_workers(self):
        """Each worker stands under Worker, none under another one."""
        found = [getattr(import_module(f"goalsmith.{stem}"), word) for stem, word in WORKERS]
        self.assertEqual(len(found), 14 + 1 + 2 + 1 + 6 + 1 + 1)
        for one in found:
            self.assertTrue(issubclass(one, import_module("goalsmith.workers").Worker))
            self.assertEqual([other for other in found if issubclass(one, other)], [one])

    def test_work_stands_in_each_worker(self):
        """What a class inherits does not do: each worker has in its own body the method by which it answers."""
        for stem, word in WORKERS + [("workers", "Worker")]:
            bodies = [node.body for node in TREES[stem].body if isinstance(node, ast.ClassDef) and node.name == word]
            self.assertEqual(len(bodies), 1, word)
            told = [node for node in bodies[0] if isinstance(node, ast.FunctionDef) and node.name == "work"]
            self.assertEqual([[one.arg for one in node.args.args] for node in told], [["self", "ground", "goal"]], word)


if __name__ == "__main__":
    unittest.main()
