"""The rules of LANGUAGE.md that can be checked by counting and by looking for words."""

import ast
import builtins
import re
import unittest
from pathlib import Path

PACKAGE = Path(__file__).resolve().parent.parent / "harvestcarts"
LIBRARY = {"math": {"gcd", "lcm", "isqrt", "comb", "perm", "factorial"},
           "heapq": {"heappush", "heappop", "heapify", "heapreplace", "heappushpop"},
           "itertools": {"product", "combinations", "permutations", "chain", "accumulate", "pairwise", "islice",
                         "zip_longest"},
           "collections": {"defaultdict"}}
BARRED = ["type", "typing", "enum", "dataclass", "overload", "contextmanager", "namedtuple", "global", "async",
          "eval", "exec", "globals", "locals", "vars", "Meta"]
# Calls that are iterated on the spot, and what may take them as its first argument.
ITERATED = {"zip", "enumerate", "range", "reversed", "items", "keys", "values"}
ITERATING = {"list", "tuple", "dict", "sorted", "sum", "any", "all", "enumerate", "zip", "min", "max"}
INTERFACE = {"errors.py": {"FarmError": [], "InvalidFarm": [], "TooManyStates": [], "UnknownField": [],
                           "InvalidPlan": [], "InvalidNumber": [], "NotHarmonic": [], "TooFewCarts": [],
                           "Contradiction": [], "InvalidCart": [], "InvalidOperation": [], "InvalidText": [],
                           "DecodeError": []},
             "farms.py": {"Farm": ["fields", "names", "limits", "share", "equal", "with_limit"], "least_carts": []},
             "plans.py": {"Plan": ["days", "lead", "carts", "harvests"], "first_rot": [], "mend_by_swap": [],
                          "needless_harvests": []},
             "search.py": {"longest_days": [], "find_plan": [], "fewest_carts": [], "states_left": [],
                           "choices_that_last": []},
             "harmonic.py": {"is_harmonic": [], "Rule": ["count"]},
             "hidden.py": {"PlanObserver": ["pass_days", "see_left", "today", "records", "possible_left",
                                            "can_last"]},
             "carts.py": {"Cart": ["works_on"], "RestingCart": ["works_on"], "ShiftCart": ["works_on"],
                          "LateCart": ["works_on"], "carts_on": [], "urgent_days": [], "urgent_rot": [],
                          "urgent_plan": []},
             "live.py": {"LiveFarm": ["now", "days_left", "limits_now", "rotten", "history", "harvest", "wait",
                                      "change_limit", "undo", "redo", "apply_all", "tried", "replay"], "Trial": []},
             "texts.py": {"format_plan": [], "parse_plan": [], "chart": []},
             "codec.py": {"encode_farm": [], "decode_farm": []}}


def name_of_call(node):
    """The name of the function or method that a node calls, or None."""
    if not isinstance(node, ast.Call):
        return None
    return node.func.id if isinstance(node.func, ast.Name) else getattr(node.func, "attr", None)


def nodes_with_parents():
    for path in files():
        tree = ast.parse(path.read_text())
        for parent in ast.walk(tree):
            for node in ast.iter_child_nodes(parent):
                yield path, node, parent


def files():
    return sorted(path for path in PACKAGE.rglob("*") if "__pycache__" not in path.parts)


class LanguageTest(unittest.TestCase):

    def test_the_package_contains_only_python_files(self):
        self.assertTrue((PACKAGE / "__init__.py").is_file())
        for path in files():
            self.assertTrue(path.is_dir() or re.fullmatch("[a-z0-9_]+[.]py", path.name), path)

    def test_sizes_and_characters(self):
        for path in files():
            lines = path.read_text(encoding="utf-8").split("\n")
            self.assertLessEqual(len(lines), 400, path)
            for line in lines:
                self.assertLessEqual(len(line), 120, path)
                self.assertTrue(all(" " <= sign <= "~" for sign in line), (path, line))

    def test_sizes_of_functions(self):
        for path in files():
            for node in ast.walk(ast.parse(path.read_text())):
                if isinstance(node, ast.FunctionDef):
                    self.assertLessEqual(node.end_lineno - node.lineno + 1, 40, (path, node.name))

    def test_imports(self):
        for path in files():
            for node in ast.walk(ast.parse(path.read_text())):
                self.assertNotIsInstance(node, ast.Import, path)
                if isinstance(node, ast.ImportFrom):
                    names = {alias.name for alias in node.names}
                    self.assertEqual(node.level, 0, path)
                    self.assertTrue(node.module.startswith("harvestcarts.") or names <= LIBRARY[node.module], path)

    def test_values(self):
        kinds = (ast.Div, ast.Global, ast.AsyncFunctionDef, ast.Await)
        for path in files():
            for node in ast.walk(ast.parse(path.read_text())):
                self.assertNotIsInstance(node, kinds, path)
                if isinstance(node, ast.Constant):
                    self.assertNotIsInstance(node.value, float, path)
                    self.assertNotIn("%", str(node.value), path)

    def test_barred_words(self):
        for path in files():
            words = re.findall("[A-Za-z_]+", path.read_text())
            for word in BARRED:
                self.assertNotIn(word, words, path)

    def test_the_interface_is_defined_where_it_is_listed(self):
        for name, defined in INTERFACE.items():
            tree = ast.parse((PACKAGE / name).read_text())
            found = {node.name: node for node in tree.body if isinstance(node, (ast.FunctionDef, ast.ClassDef))}
            for word, methods in defined.items():
                self.assertIn(word, found)
                own = [node.name for node in found[word].body if isinstance(node, ast.FunctionDef)]
                self.assertEqual([method for method in methods if method not in own], [], word)

    def test_names_of_variables(self):
        for path in files():
            tree = ast.parse(path.read_text())
            taken = set(dir(builtins))
            for node in tree.body:
                if isinstance(node, ast.ClassDef):
                    taken.add(node.name)
                if isinstance(node, ast.ImportFrom):
                    taken |= {alias.name for alias in node.names}
            for node in ast.walk(tree):
                if isinstance(node, ast.arg):
                    self.assertNotIn(node.arg, taken, path)
                if isinstance(node, ast.Name) and isinstance(node.ctx, ast.Store):
                    self.assertNotIn(node.id, taken, path)

    def test_no_two_files_import_from_each_other(self):
        imports = {}
        for path in files():
            imports[path.stem] = {node.module.split(".")[-1] for node in ast.walk(ast.parse(path.read_text()))
                                  if isinstance(node, ast.ImportFrom) and node.module.startswith("harvestcarts.")}
        while imports:
            free = [name for name, modules in imports.items() if not modules & set(imports)]
            self.assertNotEqual(free, [], imports)
            for name in free:
                del imports[name]

    def test_no_generator_expressions(self):
        # Objects of the package compare and have lengths, so any, all, sum and the like take lists.
        for path, node, parent in nodes_with_parents():
            self.assertNotIsInstance(node, ast.GeneratorExp, path)

    def test_what_is_iterated_at_once(self):
        for path, node, parent in nodes_with_parents():
            if name_of_call(node) in ITERATED:
                iterated = isinstance(parent, (ast.For, ast.comprehension)) and node is parent.iter
                iterating = name_of_call(parent) in ITERATING and node is parent.args[0]
                self.assertTrue(iterated or iterating, (path, node.lineno))

    def test_sets(self):
        for path, node, parent in nodes_with_parents():
            if isinstance(node, (ast.Set, ast.SetComp)) or name_of_call(node) in ("set", "frozenset"):
                used = isinstance(parent, ast.Compare) or name_of_call(parent) in ("sorted", "len")
                self.assertTrue(used, (path, node.lineno))

    def test_generators_have_names_of_their_own(self):
        names = []
        generators = []
        for path, node, parent in nodes_with_parents():
            if isinstance(node, ast.FunctionDef):
                names.append(node.name)
                if any(isinstance(part, (ast.Yield, ast.YieldFrom)) for part in ast.walk(node)):
                    generators.append(node.name)
        self.assertEqual([name for name in generators if names.count(name) > 1], [])
        for path, node, parent in nodes_with_parents():
            self.assertNotIn(name_of_call(node), generators, path)

    def test_classes_with_items_say_how_they_are_iterated_over(self):
        for path, node, parent in nodes_with_parents():
            if isinstance(node, ast.ClassDef):
                methods = [part.name for part in node.body if isinstance(part, ast.FunctionDef)]
                self.assertEqual("__getitem__" in methods, "__iter__" in methods, node.name)

    def test_attributes_do_not_have_the_names_of_methods(self):
        methods = []
        attributes = []
        for path, node, parent in nodes_with_parents():
            if isinstance(parent, ast.ClassDef) and isinstance(node, ast.FunctionDef):
                methods.append(node.name)
            if isinstance(node, ast.Attribute) and isinstance(node.ctx, ast.Store):
                attributes.append(node.attr)
        self.assertEqual([name for name in attributes if name in methods], [])

    def test_ends_of_blocks_only_assign(self):
        for path, node, parent in nodes_with_parents():
            if isinstance(node, ast.FunctionDef) and node.name == "__exit__":
                for row in node.body:
                    self.assertIsInstance(row, ast.Assign, path)
                    self.assertIsInstance(row.value, ast.Attribute, path)
                    self.assertIsInstance(row.value.value, ast.Name, path)


if __name__ == "__main__":
    unittest.main()
