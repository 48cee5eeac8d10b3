"""The code of the package keeps to LANGUAGE.md, as far as this can be seen here, and to the interface."""

import ast
import builtins
import importlib
import inspect
import os
import re
import unittest

FOLDER = os.path.join(os.path.dirname(os.path.dirname(os.path.abspath(__file__))), "hownarrow")
FILES = sorted(os.listdir(FOLDER))

# [11] to [40]: the interface of all files.
INTERFACE = {
    "errors": "CueError() NoCommand(line) NoShot() NoTable(fault) NoText(line, column) Nothing() TooMany(most) "
              "Wrong(place)",
    "forms": "is_integer(thing) is_name(thing) is_lot(thing) is_permutation(many, thing) is_end(thing) is_slope(thing) "
             "is_range(thing) is_word(thing) is_table(thing) is_edge(table, thing) is_corner(table, thing) "
             "is_label(table, thing) is_outcome(thing) is_picture(thing) is_wish(thing) "
             "corners_at(rights, ups, corner)",
    "slopes": "less_steep(one, other) are_neighbours(one, other) simpler(one, other) lies_in(within, slope) "
              "added(one, other) mirrored(end) simplest_first(slopes) slopes_up_to(most) slopes_between(within, most)",
    "tables": "edges_of(table) edge_ahead(table, label, is_up) permutation_of(table, edge) corners_of(table) "
              "point_of(table, corner) points_of(table) made_table(size, marks, rights, ups, dials, pockets) "
              "joined_to(table, edge) pocket_at(table, corner) table_fault(thing)",
    "tabletexts": "show_table(table) read_table(text)",
    "drawings": "lies_at(table, thing) drawn(table, places) read_drawing(text)",
    "otherwise": "mirrored(table, is_up) turned(table) renamed(table, order) refined(table, many) "
                 "refined_corner(many, corner) with_dial(table, edge, permutation) with_pocket(table, corner, name) "
                 "without_pocket(table, corner) with_join(table, side, cell, other) without_join(table, side, cell)",
    "labels": "labels_of(table) sideways(table, label) up(table, label) from_sideways(table, label) "
              "from_up(table, label) about(label)",
    "points": "is_kept(table, label) is_free(table, corner) kept_labels(table) holes_of(table) "
              "falls_at(table, corner) falls_of(table) quarters_many(table, corner)",
    "squares": "number_of(table, label) order_of(one) label_of(table, number) sides_of(table) ups_of(table) "
               "turns_of(table) one_then(one, other) turned_back(one) often(one, many) kinds_of(table) rounds_of(one) "
               "turns_at(table, corner)",
    "balls": "stretch(table, label, slope) track(table, label, slope) shot(table, label, slope) "
             "contrary(table, label, slope)",
    "places": "place_at(table, label, slope, time) times_over(table, label, slope, edge)",
    "words": "word_of(slope) word_by(runs) exchanged(word) neighbours_of(word) slope_of(word) range_of(word) "
             "runs_of(word)",
    "ranges": "simplest_in(within) cover_of(within) node_in(within)",
    "crossings": "crossings_of(slope) straight(slope) way_of(word)",
    "pictures": "numbered(sides, ups, kinds) first_picture(table, label) led(picture, letter) "
                "picture_at(table, label, word) picture_of(table, label, slope) outcome_of(picture) "
                "outcome_at(table, label, slope)",
    "wishes": "meets(wish, outcome) is_within(one, other) everything(table) wish_for(outcomes) both(one, other)",
    "graphs": "graph_of(table, label) row_at(graph, word) word_to(graph, index) way_back(graph, index)",
    "papers": "is_graph(table, label, thing) is_paper(table, label, wish, thing) paper_for(table, label, wish)",
    "settled": "outcomes_of(table, label) is_kept(table, label, wish) simplest_broken(table, label, wish) "
               "simplest_met(table, label, wish) first_met(table, label, wish, most)",
    "narrow": "simplest_shot(table, label, wish, within) nearest_below(table, label, wish, end, most) "
              "nearest_above(table, label, wish, end, most) simplest_shots(table, label, within) "
              "word_within(table, label, wish, within)",
    "rounds": "along(table, label, word, more) slope_along(word, more, many)",
    "alike": "couples_of(one, spot, other, second) are_alike(one, spot, other, second) "
             "is_couples(one, spot, other, second, thing) parting_slope(one, spot, other, second)",
    "leastgraph": "least_of(rows) is_least(thing) row_behind(least, word) outcome_by(least, slope) "
                  "rounds_by(least, letter)",
    "remainders": "level_of(least) marks_many(least, number) is_told_by(least, number) "
                  "are_unlike(least, number, thing) remainder_table(least, number) unlike_slopes(least, number)",
    "strips": "above(table, label, slope) row_of(table, label, slope) rows_of(table, slope) "
              "strips_of(table, slope) row_above(table, slope, row)",
    "inner": "is_ball(table, thing) meets_corners(ball, slope) gone(table, ball, slope) row_under(table, ball, slope) "
             "strip_at(table, ball, slope) round_of(table, ball, slope) met_corner(table, ball, slope)",
    "counts": "counts_by_depth(table, label, most) shares(table, label) counts_to(table, label, most)",
    "cushions": "cushions_of(table, label, slope) fewest(table, label, wish, most)",
    "games": "Game(table, spots, worths)",
    "strokes": "show_stroke(stroke) read_stroke(table, spots, text) best_stroke(table, spots, worths, mark, many) "
               "gains_of(table, spots, worths, mark) value_of(table, spots, worths, mark, many) "
               "are_values(table, spots, worths, most, thing)",
    "kept": "Kept(table, label)",
    "desk": "Desk()",
}
# The methods of the classes, each defined in the class itself.
METHODS_OF = {
    ("games", "Game"): "table() spots() strokes() outcomes() scores() worths() dial() turn() strike(seat, slope) "
                       "told(at, seat, slope) struck(at) undo() twin() __eq__(other)",
    ("kept", "Kept"): "put_table(table) put_spot(label) put_wish(name, wish) take_wish(name) table() spot() wishes() "
                      "kept() broken() outcome(slope) rows_many() stayed() undo() twin() __eq__(other)",
    ("desk", "Desk"): "execute(line) table() spot() wishes() twin() __eq__(other)",
}

LIBRARY = {
    "math": "gcd lcm isqrt comb perm factorial", "heapq": "heappush heappop heapify heapreplace heappushpop",
    "itertools": "product combinations permutations chain accumulate pairwise islice zip_longest",
    "collections": "defaultdict",
}
BUILTINS = (
    "len range enumerate zip min max sum abs sorted reversed int str bool bytes list tuple dict set frozenset "
    "isinstance ord repr any all divmod pow getattr hasattr setattr Exception ValueError TypeError KeyError "
    "IndexError LookupError ZeroDivisionError ArithmeticError OverflowError RuntimeError NotImplementedError "
    "AttributeError StopIteration NotImplemented iter next map"
).split()
METHODS = (
    "append clear copy count endswith extend find get index insert isalnum isalpha isdigit islower isspace isupper "
    "items join keys ljust lower lstrip partition pop remove replace reverse rfind rjust rpartition rsplit rstrip "
    "setdefault split splitlines startswith strip update upper values zfill bit_length add discard"
).split()
BARRED_WORDS = (
    "type typing typing_extensions enum Enum IntEnum StrEnum Flag IntFlag Generic Protocol ABC ABCMeta namedtuple "
    "NamedTuple TypedDict TYPE_CHECKING abstractmethod dataclass overload contextmanager"
).split()
BARRED_NAMES = (
    "register mro elements open input law version_info with_traceback add_note attrgetter breakpoint builtins compile "
    "copyright credits delattr dir eval exec exit gc globals help id importlib license locals methodcaller os quit "
    "super vars sys"
).split()
# Doctest, which runs beside this, leaves its last value among the builtins as "_".
PYTHONS_OWN = set(dir(builtins)) - {"_"}
BARRED_NODES = (
    ast.Global, ast.AsyncFunctionDef, ast.Await, ast.AsyncFor, ast.AsyncWith, ast.Div, ast.GeneratorExp, ast.Yield,
    ast.YieldFrom, ast.Import, ast.AnnAssign, ast.Nonlocal, ast.With, ast.AsyncWith, ast.Match, ast.Lambda,
    ast.NamedExpr, ast.Assert, ast.Delete,
)


def source(name):
    with open(os.path.join(FOLDER, name), encoding="utf-8") as file:
        return file.read()


def bound_in(function):
    """All names that a function binds: parameters and what it assigns."""
    arguments = function.args
    named = arguments.posonlyargs + arguments.args + arguments.kwonlyargs
    found = {one.arg for one in named}
    for node in ast.walk(function):
        if isinstance(node, ast.Name) and isinstance(node.ctx, ast.Store):
            found.add(node.id)
    return found


class TestLanguage(unittest.TestCase):
    def trees(self):
        return [(name, ast.parse(source(name))) for name in FILES]

    def test_the_folder(self):
        self.assertIn("__init__.py", FILES)
        for name in FILES:
            self.assertRegex(name, r"\A(__init__|__main__|[a-z][a-z0-9_]*)\.py\Z")
        self.assertEqual(set(INTERFACE) - {name[:-3] for name in FILES}, set())

    def test_lines_and_signs(self):
        for name in FILES:
            text = source(name)
            self.assertTrue(text.endswith("\n"))
            lines = text.split("\n")
            self.assertTrue(len(lines) - 1 <= 399, name)
            for line in lines:
                self.assertTrue(len(line) <= 120, (name, line))
                self.assertTrue(all(" " <= sign <= "~" for sign in line), (name, line))
                self.assertEqual(line, line.rstrip(), name)
            for word in ("_wall", "_WallAttr"):
                self.assertNotIn(word, text)
            for sign in re.findall(r"\\.", text):
                self.assertIn(sign, ("\\n", "\\t", "\\\\", "\\'", '\\"'), name)

    def test_functions_are_small_and_told(self):
        for name, tree in self.trees():
            self.assertIsNotNone(ast.get_docstring(tree), name)
            for node in ast.walk(tree):
                if isinstance(node, (ast.FunctionDef, ast.ClassDef)):
                    self.assertEqual(node.decorator_list, [], (name, node.name))
                if isinstance(node, ast.FunctionDef):
                    self.assertTrue(node.end_lineno - node.lineno < 40, (name, node.name))
                    if node.name != "__init__":
                        self.assertIsNotNone(ast.get_docstring(node), (name, node.name))
                if isinstance(node, ast.ClassDef):
                    self.assertIsNotNone(ast.get_docstring(node), (name, node.name))

    def test_module_level(self):
        for name, tree in self.trees():
            bound = []
            for node in tree.body[1:]:
                self.assertIsInstance(node, (ast.ImportFrom, ast.FunctionDef, ast.ClassDef, ast.Assign), name)
                if isinstance(node, ast.Assign):
                    self.assertEqual(len(node.targets), 1)
                    self.assertIsInstance(node.targets[0], ast.Name)
                    if isinstance(node.value, ast.Dict) and isinstance(node.value.values[0], ast.Name):
                        # A table of functions that are defined above.
                        self.assertEqual({one.id for one in node.value.values} - set(bound), set(), name)
                    else:
                        ast.literal_eval(node.value)
                    bound.append(node.targets[0].id)
                elif isinstance(node, ast.ImportFrom):
                    bound.extend([one.name for one in node.names])
                else:
                    bound.append(node.name)
            self.assertEqual(len(bound), len(set(bound)), name)
            self.assertEqual(set(bound) & PYTHONS_OWN, set(), name)

    def test_imports(self):
        behind = {}
        for name, tree in self.trees():
            behind[name[:-3]] = set()
            for node in ast.walk(tree):
                if not isinstance(node, ast.ImportFrom):
                    continue
                self.assertEqual(node.level, 0)
                self.assertTrue(all(one.asname is None for one in node.names), name)
                names = {one.name for one in node.names}
                if node.module in LIBRARY:
                    self.assertEqual(names - set(LIBRARY[node.module].split()), set())
                    continue
                self.assertTrue(node.module.startswith("hownarrow."), name)
                there = ast.parse(source(node.module.split(".")[1] + ".py"))
                told = {one.name for one in there.body if isinstance(one, (ast.FunctionDef, ast.ClassDef))}
                told |= {one.targets[0].id for one in there.body if isinstance(one, ast.Assign)}
                self.assertEqual(names - told, set(), name)
                behind[name[:-3]].add(node.module.split(".")[1])
                used = {one.id for one in ast.walk(tree) if isinstance(one, ast.Name)}
                self.assertEqual(names - used, set(), name)
        while behind:
            free = [name for name in behind if not behind[name] & set(behind)]
            self.assertTrue(free, behind)
            for name in free:
                del behind[name]

    def test_statements_and_values(self):
        for name, tree in self.trees():
            for node in ast.walk(tree):
                self.assertNotIsInstance(node, BARRED_NODES, (name, getattr(node, "lineno", 0)))
                if isinstance(node, ast.Constant):
                    self.assertNotIsInstance(node.value, (float, complex, bytes), name)
                    if isinstance(node.value, str):
                        self.assertNotIn("%", node.value, name)
                if isinstance(node, ast.Compare):
                    for sign, side in zip(node.ops, node.comparators):
                        if isinstance(sign, (ast.Is, ast.IsNot)):
                            self.assertIsInstance(side, ast.Constant, name)
                if isinstance(node, ast.Starred):
                    self.assertIsInstance(node.value, ast.Name, name)
                if isinstance(node, ast.Raise):
                    self.assertIsInstance(node.exc, ast.Call, name)
                if isinstance(node, ast.Try):
                    # Only own errors are caught, each by its name.
                    self.assertEqual((node.finalbody, node.orelse), ([], []), name)
                    for handler in node.handlers:
                        self.assertIn(handler.type.id, ("NoText", "Nothing", "TooMany"), name)

    def test_names(self):
        for name, tree in self.trees():
            own = {node.name for node in tree.body if isinstance(node, ast.ClassDef)}
            own |= {one.name for node in tree.body if isinstance(node, ast.ImportFrom) for one in node.names}
            level = own | {node.name for node in tree.body if isinstance(node, ast.FunctionDef)}
            level |= {node.targets[0].id for node in tree.body if isinstance(node, ast.Assign)}
            for function in [node for node in ast.walk(tree) if isinstance(node, ast.FunctionDef)]:
                bound = bound_in(function)
                self.assertEqual(bound & (own | PYTHONS_OWN | set(BARRED_NAMES)), set(), (name, function.name))
                read = {node.id for node in ast.walk(function) if isinstance(node, ast.Name)} - bound - level
                self.assertEqual(read - set(BUILTINS), set(), (name, function.name))
            words = re.sub(r'"""(?s:.*?)"""|#.*', "", source(name))
            for word in BARRED_WORDS:
                self.assertIsNone(re.search(r"\b" + word + r"\b", words), (name, word))
            for node in ast.walk(tree):
                for named in (getattr(node, "id", None), getattr(node, "attr", None), getattr(node, "arg", None)):
                    if named is not None:
                        self.assertRegex(named, r"\A(_|_?[A-Za-z][A-Za-z0-9_]*|__init__)\Z")
                if isinstance(node, ast.ClassDef):
                    named = {one.name for one in node.body if isinstance(one, ast.FunctionDef)}
                    marked = {one for one in named if one.startswith("__")}
                    self.assertEqual(marked - {"__init__", "__eq__"}, set(), (name, node.name))
                    self.assertEqual(len(named), len(node.body) - 1, (name, node.name))

    def test_methods_and_sets(self):
        own = set()
        for _, tree in self.trees():
            for node in ast.walk(tree):
                if isinstance(node, ast.ClassDef):
                    own |= {one.name for one in node.body if isinstance(one, ast.FunctionDef)}
        for name, tree in self.trees():
            allowed = set()
            for node in ast.walk(tree):
                if isinstance(node, ast.Call) and isinstance(node.func, ast.Name):
                    if node.func.id in ("len", "sorted") and not node.keywords:
                        allowed |= {id(one) for one in node.args}
            for node in ast.walk(tree):
                if isinstance(node, ast.Call) and isinstance(node.func, ast.Attribute):
                    self.assertIn(node.func.attr, own | set(METHODS), name)
                    self.assertEqual(node.keywords, [], name)
                if isinstance(node, ast.Call) and isinstance(node.func, ast.Name) and node.func.id == "set":
                    self.assertIn(id(node), allowed, (name, node.lineno))
                self.assertNotIsInstance(node, (ast.Set, ast.SetComp), name)

    def test_attributes_and_methods(self):
        methods, assigned, read = set(), set(), set()
        for name, tree in self.trees():
            for node in ast.walk(tree):
                if isinstance(node, ast.ClassDef):
                    methods |= {one.name for one in node.body if isinstance(one, ast.FunctionDef)}
                if isinstance(node, ast.Attribute):
                    (read if isinstance(node.ctx, ast.Load) else assigned).add(node.attr)
                    if isinstance(node.ctx, ast.Store):
                        self.assertIsInstance(node.value, ast.Name, name)
        # No name is both, in whatever class; and what is read is assigned somewhere.
        self.assertEqual(methods & assigned, set())
        self.assertEqual(read - methods - assigned - set(METHODS), set())
        self.assertEqual(assigned & set(METHODS), set())

    def test_what_is_equal(self):
        for name, tree in self.trees():
            for node in ast.walk(tree):
                if isinstance(node, ast.FunctionDef) and node.name == "__eq__":
                    self.assertEqual(len(node.body), 2, name)
                    told = ast.unparse(node.body[1])
                    self.assertRegex(told, r"\Areturn isinstance\(other, \w+\)( and \(?self\.(\w+) == other\.\2\)?)+\Z")

    def test_what_is_looped_over_is_not_changed(self):
        for name, tree in self.trees():
            for loop in [node for node in ast.walk(tree) if isinstance(node, ast.For)]:
                looped = {node.id for node in ast.walk(loop.iter) if isinstance(node, ast.Name)}
                for node in [one for row in loop.body for one in ast.walk(row)]:
                    if isinstance(node, ast.Call) and isinstance(node.func, ast.Attribute):
                        if node.func.attr in ("append", "pop", "extend", "insert", "remove", "clear", "setdefault"):
                            self.assertNotIn(getattr(node.func.value, "id", None), looped, (name, loop.lineno))


class TestInterface(unittest.TestCase):
    def test_names_and_arguments(self):
        for file, told in INTERFACE.items():
            module = importlib.import_module("hownarrow." + file)
            for name, arguments in re.findall(r"(\w+)\(([^)]*)\)", told):
                thing = getattr(module, name)
                self.assertEqual(thing.__module__, "hownarrow." + file, name)
                if inspect.isclass(thing):
                    expected = (["self"] + arguments.split(", ")) if arguments else []
                    given = list(inspect.signature(thing.__init__).parameters) if "__init__" in vars(thing) else []
                    self.assertEqual(given or ["self"], expected or ["self"], name)
                else:
                    self.assertEqual(list(inspect.signature(thing).parameters), arguments.split(", "), name)

    def test_methods(self):
        for (file, name), told in METHODS_OF.items():
            thing = getattr(importlib.import_module("hownarrow." + file), name)
            for method, arguments in re.findall(r"(\w+)\(([^)]*)\)", told):
                self.assertIn(method, vars(thing), (name, method))
                given = list(inspect.signature(vars(thing)[method]).parameters)
                self.assertEqual(given, ["self"] + (arguments.split(", ") if arguments else []), (name, method))


if __name__ == "__main__":
    unittest.main()
