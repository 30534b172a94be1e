"""Checks that the package keeps to the form that is asked of it, and that the interface is where it must be."""

import ast
import builtins
import functools
import importlib
import inspect
import pathlib
import re
import unittest

FOLDER = pathlib.Path(__file__).resolve().parent.parent / "heaprows"

BUILTINS = set("len range enumerate zip min max sum abs sorted reversed int str bool bytes list tuple dict set frozenset "
               "isinstance ord repr any all divmod Exception ValueError TypeError KeyError IndexError LookupError "
               "ZeroDivisionError ArithmeticError OverflowError RuntimeError NotImplementedError AttributeError "
               "StopIteration NotImplemented iter next map property staticmethod classmethod super object".split())
# Examples that are run in other tests leave a builtin _ behind.
PYTHONS = set(dir(builtins)) - {"_"}
LIBRARY = {"heapq": {"heappush", "heappop", "heapify", "heapreplace", "heappushpop"},
           "math": {"gcd", "lcm", "isqrt", "comb", "perm", "factorial"}}
METHODS = set("append clear copy count endswith extend find get index insert isalnum isalpha isdigit islower isspace "
              "isupper items join keys ljust lower lstrip partition pop remove replace reverse rfind rjust rpartition "
              "rsplit rstrip setdefault split splitlines startswith strip update upper values zfill bit_length add "
              "discard removeprefix removesuffix isascii".split())
CHANGING = set("append clear extend insert pop remove reverse setdefault update add discard sort".split())
DOUBLE = set("__init__ __eq__ __repr__ __str__ __len__ __enter__ __exit__ __call__ __iter__ __contains__ "
             "__getitem__".split())
BARRED = set("register mro elements open input law version_info with_traceback add_note compile copyright credits "
             "delattr dir eval exec exit gc getattr globals hasattr help id importlib license locals os quit setattr "
             "type vars sys".split())
WORDS = re.compile(r"\b(type|typing|enum|Enum|Flag|Generic|Protocol|ABC|namedtuple|abstractmethod)\b")
NODES = (ast.Global, ast.AsyncFunctionDef, ast.AsyncFor, ast.AsyncWith, ast.Await, ast.Div, ast.Import,
         ast.AnnAssign, ast.GeneratorExp, ast.MatMult, ast.TryStar)
FUNCTIONS = (ast.FunctionDef, ast.Lambda)

INTERFACE = {
    "trees": {
        "Tree": "(many, *, arms=2)", "Tree.of": "(row, *, arms=2)", "Tree.parent": "(self, place)",
        "Tree.way_to": "(self, place)", "Tree.depth": "(self, place)", "Tree.size": "(self, place)",
        "Tree.height": "(self, place)", "Tree.subtree": "(self, place)",
    },
    "rows": {
        "is_heap": "(row, *, arms=2)", "faults": "(row, *, arms=2)", "falls": "(row, *, arms=2)", "ranks": "(row)",
    },
    "sifts": {
        "sift_up": "(row, place, *, arms=2)", "sift_down": "(row, place, *, arms=2)", "Sift": "(row, way, looks)",
    },
    "heaps": {
        "push": "(row, key, *, arms=2)", "take": "(row, *, arms=2)", "take_by_hole": "(row, *, arms=2)",
        "put_for": "(row, key, *, arms=2)", "build": "(row, *, arms=2)", "Built": "(row, stops, changes, looks)",
    },
    "counting": {
        "how_many": "(many, *, arms=2)", "all_heaps": "(keys, *, arms=2)", "heap_at": "(keys, index, *, arms=2)",
        "index_of": "(row, *, arms=2)",
    },
    "dealing": {"how_many_of": "(keys, *, arms=2)"},
    "bounds": {
        "fit": "(bounds, *, arms=2)", "can_fit": "(bounds, *, arms=2)", "told_bounds": "(bounds, *, arms=2)",
        "ranks_within": "(bounds, *, arms=2)", "how_many_fit": "(bounds, *, arms=2)", "Fitted": "(row)",
        "Fitted.shows": "(self, bounds, *, arms=2)", "Crowded": "(first, last, places)",
        "Crowded.shows": "(self, bounds, *, arms=2)",
    },
    "pushing": {
        "push_all": "(keys, *, arms=2)", "Pushed": "(row, changes, looks)", "most_pushed": "(many, *, arms=2)",
        "undo_push": "(row, place, *, arms=2)", "last_places": "(row, *, arms=2)",
        "how_many_orders": "(row, *, arms=2)", "orders_of": "(row, *, arms=2)", "Undone": "(row, key)",
        "Undone.shows": "(self, row, place, *, arms=2)", "Stuck": "(place, other)",
        "Stuck.shows": "(self, row, place, *, arms=2)",
    },
    "building": {
        "code": "(row, *, arms=2)", "decode": "(row, stops, *, arms=2)", "how_many_rows": "(many, *, arms=2)",
        "rows_of": "(row, *, arms=2)", "stops_at": "(many, index, *, arms=2)", "by_changes": "(many, *, arms=2)",
        "by_looks": "(many, *, arms=2)", "hardest": "(many, *, arms=2)", "Hardest": "(row, looks, shares)",
        "Hardest.shows": "(self, many, *, arms=2)",
    },
    "taking": {
        "undo_take": "(row, least, place, *, arms=2)", "places_behind": "(row, *, arms=2)",
        "looks_of": "(row, *, arms=2)", "looks_over": "(many, *, arms=2)", "Before": "(row)",
        "Before.shows": "(self, row, least, place, *, arms=2)", "Over": "(place, key)",
        "Over.shows": "(self, row, least, place, *, arms=2)",
    },
    "ties": {
        "names_behind": "(row, *, arms=2)", "compare_ways": "(keys, *, arms=2)", "are_together": "(keys, *, arms=2)",
        "Together": "(heaps)", "Together.shows": "(self, keys, *, arms=2)", "Apart": "(row)",
        "Apart.shows": "(self, keys, *, arms=2)",
    },
    "mending": {
        "mend": "(row, *, arms=2)", "fewest_changed": "(row, *, arms=2)", "kept_sets": "(row, *, arms=2)",
        "Mended": "(row, kept, chains)", "Mended.shows": "(self, row, *, arms=2)",
    },
    "standing": {
        "stand": "(many, place, rank, *, arms=2)", "can_stand": "(many, place, rank, *, arms=2)",
        "ranks_of": "(many, place, *, arms=2)", "closed_sets": "(many, count, *, arms=2)",
        "many_closed": "(many, count, *, arms=2)", "closed_at": "(many, count, index, *, arms=2)",
        "is_closed": "(many, thing, *, arms=2)", "closed_index": "(many, closed, *, arms=2)",
        "heap_with": "(many, closed, *, arms=2)", "Stands": "(row)",
        "Stands.shows": "(self, many, place, rank, *, arms=2)", "Barred": "(word, places)",
        "Barred.shows": "(self, many, place, rank, *, arms=2)",
    },
    "looking": {
        "judge_rank": "(many, look, place, *, arms=2)", "is_sure": "(many, look, place, *, arms=2)",
        "open_ranks": "(many, look, place, *, arms=2)", "sure_places": "(many, look, *, arms=2)",
        "fewest_looks": "(row, place, *, arms=2)", "Sure": "(rank, ahead, behind)", "Open": "(one, other)",
        "Sure.shows": "(self, many, look, place, *, arms=2)", "Open.shows": "(self, many, look, place, *, arms=2)",
        "Fewest": "(look, opens)", "Fewest.shows": "(self, row, place, *, arms=2)",
    },
    "streams": {
        "Keeper": "(room, *, arms=2)", "Keeper.see": "(self, key)", "Keeper.ascending": "(self)",
        "changes": "(room, row)", "order_code": "(order)", "order_by": "(numbers)",
        "many_orders": "(many, room, number)", "order_at": "(many, room, number, index)",
        "order_index": "(room, order)",
    },
    "runs": {
        "by_replacement": "(room, row)", "fewest_runs": "(room, row)", "runs_of": "(room, row, written)",
        "judge_runs": "(room, row, number)", "least_room": "(row, number)", "many_of_one": "(many, room)",
        "Cuts": "(written)", "Cuts.shows": "(self, room, row, number)", "Needs": "(levels)",
        "Needs.shows": "(self, room, row, number)",
    },
    "knowing": {
        "know": "(many, goal, *, arms=2)", "fewest_questions": "(many, goal, *, arms=2)",
        "Known": "(number, plan, bounds)", "Known.shows": "(self, many, goal, *, arms=2)",
    },
    "fronts": {
        "front": "(row, count, *, arms=2)", "least_keys": "(row, count, *, arms=2)",
        "judge_places": "(row, count, places, *, arms=2)", "does_settle": "(row, count, places, *, arms=2)",
        "fewest_places": "(row, count, *, arms=2)", "Front": "(taken, waiting)", "Settled": "(least)",
        "Settled.shows": "(self, row, count, places, *, arms=2)", "Unsettled": "(row)",
        "Unsettled.shows": "(self, row, count, places, *, arms=2)", "Least": "(places, rows)",
        "Least.shows": "(self, row, count, *, arms=2)",
    },
    "ways": {
        "states": "(pool, *, arms=2)", "deeds": "(pool, state, *, arms=2)",
        "after": "(pool, state, history, *, arms=2)", "route": "(pool, one, other, *, arms=2)",
        "distance": "(pool, one, other, *, arms=2)", "farthest": "(pool, *, arms=2)", "Route": "(deeds, levels)",
        "Route.shows": "(self, pool, one, other, *, arms=2)",
    },
    "queues": {
        "Queue": "(*, arms=2)", "Queue.put": "(self, name, key)", "Queue.change": "(self, name, key)",
        "Queue.take": "(self)", "Queue.drop": "(self, name)", "Queue.undo": "(self)", "Queue.branch": "(self)",
        "Queue.trial": "(self)", "Queue.attempt": "(self, work)", "Queue.where": "(self, name)",
        "Queue.key_of": "(self, name)", "Queue.in_order": "(self)",
    },
    "texts": {
        "write_heap": "(row, *, arms=2)", "read_heap": "(text, *, arms=2)", "write_journal": "(queue)",
        "read_journal": "(text, *, arms=2)",
    },
}
PROPERTIES = {"streams": {"Keeper": ("heap", "entered")}, "queues": {"Queue": ("heap", "names", "journal")}}
DUNDERS = {"trees": {"Tree": "__len__ __contains__ __iter__ __getitem__ __eq__"},
           "streams": {"Keeper": "__len__ __contains__"}, "fronts": {"Front": "__len__ __eq__"},
           "queues": {"Queue": "__len__ __contains__ __eq__"}}


def files():
    return sorted(path for path in FOLDER.rglob("*") if path.is_file() and "__pycache__" not in path.parts)


@functools.lru_cache(maxsize=None)
def trees():
    return {path.stem: ast.parse(path.read_text("utf-8")) for path in files()}


def bound_at_top(tree):
    names = []
    for node in tree.body:
        if isinstance(node, (ast.FunctionDef, ast.ClassDef)):
            names.append(node.name)
        if isinstance(node, ast.ImportFrom):
            names += [name.name for name in node.names]
        if isinstance(node, ast.Assign):
            names += [target.id for target in node.targets]
    return names


def bound_inside(tree):
    """Names that functions bind: parameters, local variables, nested functions."""
    names = set()
    for function in ast.walk(tree):
        if isinstance(function, FUNCTIONS):
            names |= {node.arg for node in ast.walk(function) if isinstance(node, ast.arg)}
            names |= {node.id for node in ast.walk(function)
                      if isinstance(node, ast.Name) and isinstance(node.ctx, ast.Store)}
            names |= {node.name for node in ast.walk(function) if isinstance(node, ast.FunctionDef) and node != function}
    return names


def one_name(names, pairs):
    """The names that may mean the same as some of these, where each pair of names means the same at some time."""
    found = set(names)
    while True:
        more = {name for pair in pairs if found & set(pair) for name in pair}
        if more <= found:
            return found
        found |= more


def changed_in(loop):
    """The names of what is changed inside a loop: by items, by `+=` and the like, or by methods."""
    names = set()
    for node in ast.walk(ast.Module(body=loop.body, type_ignores=[])):
        if isinstance(node, ast.Subscript) and not isinstance(node.ctx, ast.Load):
            names.add(ast.unparse(node.value))
        if isinstance(node, ast.AugAssign):
            names.add(ast.unparse(node.target))
        if isinstance(node, ast.Call) and isinstance(node.func, ast.Attribute) and node.func.attr in CHANGING:
            names.add(ast.unparse(node.func.value))
    return names


def walked_by(loop):
    """The names of what a loop walks, unless it walks a copy."""
    if isinstance(loop.iter, ast.Call) and ast.unparse(loop.iter.func) in ("list", "sorted", "range", "tuple"):
        return set()
    return {ast.unparse(node) for node in ast.walk(loop.iter) if isinstance(node, (ast.Name, ast.Attribute))}


def adds_what_may_be_itself(node):
    """Whether a row adds something to a list or dict without showing that it is not this list or dict."""
    if isinstance(node, ast.AugAssign) and isinstance(node.op, (ast.Add, ast.BitOr)):
        # Names and attributes are left out: here they are numbers.
        return isinstance(node.value, ast.Subscript)
    if isinstance(node, ast.Call) and isinstance(node.func, ast.Attribute) and node.func.attr in ("extend", "update"):
        return not all(is_new(part) for part in node.args)
    return False


def is_new(node):
    """Whether a row shows that a list or dict is made on the spot."""
    if isinstance(node, ast.Call):
        return ast.unparse(node.func) in ("list", "sorted", "dict")
    return isinstance(node, (ast.List, ast.ListComp, ast.Dict, ast.DictComp))


class FormTest(unittest.TestCase):
    def test_files(self):
        self.assertTrue(FOLDER.joinpath("__init__.py").is_file())
        for path in files():
            self.assertEqual(path.parent, FOLDER)
            self.assertRegex(path.name, r"^(__init__|[a-z]+)\.py$")
            text = path.read_text("utf-8")
            self.assertRegex(text, r"\A[\n -~]*\Z", path)
            lines = text.split("\n")
            self.assertLessEqual(len(lines), 400, path)
            self.assertLessEqual(max(map(len, lines)), 120, path)

    def test_functions_are_small(self):
        for stem, tree in trees().items():
            for node in ast.walk(tree):
                if isinstance(node, ast.FunctionDef):
                    self.assertLessEqual(node.end_lineno - node.lineno + 1, 40, (stem, node.name))

    def test_imports(self):
        needs = {}
        for stem, tree in trees().items():
            needs[stem] = set()
            begun = False
            for node in tree.body:
                if not isinstance(node, ast.ImportFrom):
                    begun = begun or not isinstance(node, ast.Expr)
                    continue
                self.assertFalse(begun, (stem, "an import that is not at the top"))
                names = {name.name for name in node.names}
                self.assertTrue(all(name.asname is None for name in node.names), stem)
                if node.module in LIBRARY:
                    self.assertLessEqual(names, LIBRARY[node.module])
                    continue
                package, other = node.module.split(".")
                self.assertEqual((package, node.level), ("heaprows", 0))
                defined = [part.name for part in trees()[other].body if hasattr(part, "name")]
                defined += [target.id for part in trees()[other].body if isinstance(part, ast.Assign)
                            for target in part.targets]
                self.assertLessEqual(names, set(defined), stem)
                needs[stem].add(other)
            used = {node.id for node in ast.walk(tree) if isinstance(node, ast.Name)}
            imported = {name.name for node in tree.body if isinstance(node, ast.ImportFrom) for name in node.names}
            self.assertLessEqual(imported, used, (stem, "an import that is not used"))
        while needs:
            free = [stem for stem in needs if not needs[stem]]
            self.assertTrue(free, ("files import from each other", needs))
            needs = {stem: needs[stem] - set(free) for stem in needs if stem not in free}

    def test_module_level(self):
        for stem, tree in trees().items():
            for node in tree.body:
                if isinstance(node, ast.Expr):
                    self.assertIsInstance(node.value, ast.Constant, stem)
                else:
                    self.assertIsInstance(node, (ast.ImportFrom, ast.FunctionDef, ast.ClassDef, ast.Assign), stem)
            names = bound_at_top(tree)
            self.assertEqual(len(names), len(set(names)), stem)
            fixed = {node.name for node in tree.body if isinstance(node, ast.ClassDef)}
            fixed |= {name.name for node in tree.body if isinstance(node, ast.ImportFrom) for name in node.names}
            self.assertEqual(bound_inside(tree) & fixed, set(), stem)

    def test_statements_and_expressions(self):
        for stem, tree in trees().items():
            for node in ast.walk(tree):
                self.assertNotIsInstance(node, NODES, (stem, getattr(node, "lineno", None)))
                if isinstance(node, ast.Constant):
                    self.assertNotIsInstance(node.value, (float, complex), stem)
                    self.assertNotIn("%", str(node.value), stem)
                if isinstance(node, ast.BinOp) and isinstance(node.op, ast.Pow):
                    self.assertIsInstance(node.right, ast.Constant, stem)
                if isinstance(node, ast.Try):
                    self.assertTrue(all(handler.type for handler in node.handlers), stem)
                for decorator in getattr(node, "decorator_list", []):
                    self.assertIn(ast.unparse(decorator), ("property", "staticmethod", "classmethod"), stem)

    def test_loops_change_nothing_that_they_walk(self):
        for stem, tree in trees().items():
            for function in ast.walk(tree):
                if isinstance(function, ast.FunctionDef):
                    pairs = [(ast.unparse(target), node.value.id) for node in ast.walk(function)
                             if isinstance(node, ast.Assign) and isinstance(node.value, ast.Name)
                             for target in node.targets]
                    for loop in ast.walk(function):
                        if isinstance(loop, ast.For):
                            walked = one_name(walked_by(loop), pairs)
                            self.assertEqual(walked & changed_in(loop), set(), (stem, function.name, loop.lineno))

    def test_nothing_is_added_to_itself(self):
        for stem, tree in trees().items():
            for node in ast.walk(tree):
                self.assertFalse(adds_what_may_be_itself(node), (stem, getattr(node, "lineno", None)))

    def test_what_may_be_added_to_itself(self):
        for row in ("out.extend(tree[0])", "out.extend(shelf)", "out.update(box.rows)", "out.extend(given[1:])",
                    "out += tree[0]", "out |= box.rows[0]", "out.extend([shelf][0])"):
            self.assertTrue(any(map(adds_what_may_be_itself, ast.walk(ast.parse(row)))), row)
        for row in ("out.extend(list(tree[0]))", "out.extend([1])", "out.update({1: 2})", "out += list(tree[0])",
                    "out += 1", "out += box.looks", "out -= xs[0]", "out.append(tree[0])"):
            self.assertFalse(any(map(adds_what_may_be_itself, ast.walk(ast.parse(row)))), row)

    def test_names(self):
        for stem, tree in trees().items():
            mine = set(bound_at_top(tree)) | bound_inside(tree)
            own = {node.name for part in trees().values() for node in ast.walk(part)
                   if isinstance(node, ast.FunctionDef)}
            self.assertEqual(mine & PYTHONS, set(), stem)
            self.assertEqual(mine & BARRED, set(), stem)
            for node in ast.walk(tree):
                if isinstance(node, ast.Name) and node.id in PYTHONS:
                    self.assertIn(node.id, BUILTINS, (stem, node.lineno))
                if isinstance(node, ast.Call) and isinstance(node.func, ast.Attribute):
                    self.assertIn(node.func.attr, METHODS | own, (stem, node.lineno))
                if isinstance(node, ast.FunctionDef) and node.name.startswith("__"):
                    self.assertIn(node.name, DOUBLE, stem)
                if isinstance(node, ast.Attribute) and node.attr.startswith("__"):
                    self.assertEqual(node.attr, "__init__", stem)
                if isinstance(node, ast.Constant) and isinstance(node.value, str) and " " not in node.value:
                    self.assertNotRegex(node.value, WORDS, stem)
                if isinstance(node, (ast.Name, ast.Attribute)):
                    self.assertNotRegex(ast.unparse(node), WORDS, stem)

    def test_no_object_has_keys(self):
        for stem, tree in trees().items():
            for node in ast.walk(tree):
                if isinstance(node, ast.Attribute) and isinstance(node.ctx, ast.Store):
                    self.assertNotIn(node.attr, METHODS - {"count", "index"}, stem)

    def test_interface(self):
        for stem, names in INTERFACE.items():
            module = importlib.import_module(f"heaprows.{stem}")
            for name, signature in names.items():
                owner, _, last = name.rpartition(".")
                thing = getattr(getattr(module, owner) if owner else module, last)
                self.assertEqual(str(inspect.signature(thing)), signature, name)
                self.assertEqual(thing.__module__, f"heaprows.{stem}", name)
                self.assertEqual(thing.__qualname__, name)
        for stem, classes in PROPERTIES.items():
            for name, properties in classes.items():
                for word in properties:
                    found = vars(getattr(importlib.import_module(f"heaprows.{stem}"), name))[word]
                    self.assertIsInstance(found, property, (name, word))
        for stem, classes in DUNDERS.items():
            for name, words in classes.items():
                own = vars(getattr(importlib.import_module(f"heaprows.{stem}"), name))
                self.assertLessEqual(set(words.split()), set(own), name)


if __name__ == "__main__":
    unittest.main()
