"""Rules of the language that a look at the files can tell, and where the interface's names are defined."""

import ast
import builtins
import unittest
from pathlib import Path
from textwrap import dedent

from tests.walks import changes_in, faults

PACKAGE = Path(__file__).resolve().parent.parent / "agreetwo"
FILES = sorted(PACKAGE.rglob("*.py"))

DEFINED = {
    "errors": "AgreeError TooMany UnlikeHeadings Empty BadGroup BadDeed NothingDone BadRow BadNumber BadFamily "
              "BadExchange Unlike BadHeading TooFew BadText BadName Clash Cored Folds Disagree Missing NoRow "
              "UnknownColumn UnknownName NoMoment",
    "headings": "is_heading shared together beyond part",
    "tables": "Table summed support is_within agree meet",
    "joints": "joint join",
    "tabletexts": "table_text read_table",
    "webs": "is_web columns_of cut largest",
    "ears": "ears folding judge_folding root",
    "trees": "tree_of judge_tree seam seams parts is_folding_tree",
    "cores": "core judge_core core_headings",
    "families": "check_family disagreement sums is_whole",
    "wholes": "whole whole_by bound lost whole_set",
    "broken": "lots_of core_rows broken",
    "steps": "done leaving is_clean full_plan",
    "plans": "unrolled data_of judge_plan judge_paper",
    "questions": "count_join scale_led nth place_of gathered",
    "fractions": "fraction plus minus multiplied over is_less share shares",
    "products": "product product_rows product_total free even_whole",
    "seeing": "apart kept_apart chance seen likeliest row_at",
    "splits": "is_split other_side lacking has_split must_split splits_of",
    "follows": "blocks follows",
    "parted": "parted_web added joins_back unsplit",
    "bounds": "least greatest whole_with bounds_over groups_over",
    "sure": "surely open_rows two_unlike judge_unlike is_settled spoiled",
    "exchanges": "exchanged judge_exchanges",
    "leading": "leading all_wholes two_wholes",
    "webchanges": "with_heading without_heading without_column renamed glued",
    "mends": "cores critical breaking healing",
    "orders": "made_headings width filled judge_order clean_order least_width best_order",
    "deeds": "web_of family_of behind fitted letters verdict deed_text read_deed",
    "house": "House came would_tell tried",
    "console": "Console",
}
METHODS = {"tables": {"Table": "__init__ heading rows counts times total __len__ __contains__ __iter__ __eq__ __add__ "
                               "__sub__ __mul__ __rmul__"},
           "house": {"House": "__init__ do undo redo branch go present state state_at __len__ here branches trail place "
                              "log merge twin __eq__"},
           "console": {"Console": "__init__ house say"}}

BUILTINS = set("len range enumerate zip min max sum abs sorted reversed int str bool list tuple dict set isinstance ord "
               "repr any all divmod iter next type ValueError LookupError KeyError NotImplemented".split())
# The search for rows that go together notes in this dict, which it passes to itself alone, what it has tried.
HELPED = {"failed"}
LIBRARY = {"heapq", "math", "itertools", "collections"}
BARRED = ["typing", "enum", "Generic", "Protocol", "ABC", "namedtuple", "dataclass", "overload", "contextmanager"]


def trees():
    return [(path, ast.parse(path.read_text())) for path in FILES]


def imports(tree):
    return [node for node in ast.walk(tree) if isinstance(node, (ast.Import, ast.ImportFrom))]


class Files(unittest.TestCase):
    def test_the_folder_holds_only_python(self):
        for path in PACKAGE.rglob("*"):
            if "__pycache__" not in path.parts:
                self.assertTrue(path.is_dir() or path.suffix == ".py", path)
                self.assertTrue(path.is_dir() or path.name == path.name.lower(), path)
        self.assertTrue((PACKAGE / "__init__.py").is_file())

    def test_sizes_and_characters(self):
        for path, tree in trees():
            text = path.read_text()
            lines = text.split("\n")
            self.assertLessEqual(len(lines), 400, path)
            self.assertLessEqual(max(map(len, lines)), 120, path)
            self.assertFalse([sign for sign in text if sign != "\n" and not " " <= sign <= "~"], path)
            for node in ast.walk(tree):
                if isinstance(node, ast.FunctionDef):
                    self.assertLessEqual(node.end_lineno - node.lineno + 1, 40, (path, node.name))

    def test_docstrings(self):
        for path, tree in trees():
            self.assertTrue(ast.get_docstring(tree), path)
            for node in tree.body:
                if isinstance(node, (ast.FunctionDef, ast.ClassDef)):
                    self.assertTrue(ast.get_docstring(node), (path, node.name))


class Imports(unittest.TestCase):
    def test_forms(self):
        for path, tree in trees():
            for node in imports(tree):
                self.assertIsInstance(node, ast.ImportFrom, path)
                self.assertEqual(node.level, 0)
                self.assertIn(node, tree.body, path)
                for alias in node.names:
                    self.assertNotEqual(alias.name, "*")
                    self.assertIsNone(alias.asname, path)
                if node.module not in LIBRARY:
                    self.assertEqual(node.module.split(".")[0], "agreetwo")
                    home = ast.parse((PACKAGE / (node.module.split(".")[1] + ".py")).read_text())
                    for alias in node.names:
                        self.assertIn(alias.name, defined_names(home), (path, alias.name))

    def test_no_file_imports_itself_through_others(self):
        needs = {path.stem: {node.module.split(".")[-1] for node in imports(tree)} - LIBRARY for path, tree in trees()}
        while needs:
            free = [name for name in needs if not needs[name] & set(needs)]
            self.assertTrue(free, needs)
            for name in free:
                del needs[name]


def defined_names(tree):
    names = {node.name for node in tree.body if isinstance(node, (ast.FunctionDef, ast.ClassDef))}
    return names | {target.id for node in tree.body if isinstance(node, ast.Assign) for target in node.targets}


class Definitions(unittest.TestCase):
    def test_each_name_in_its_file(self):
        for name, told in DEFINED.items():
            tree = ast.parse((PACKAGE / (name + ".py")).read_text())
            made = {node.name for node in tree.body if isinstance(node, (ast.FunctionDef, ast.ClassDef))}
            self.assertLessEqual(set(told.split()), made, name)

    def test_each_method_in_its_class(self):
        for name, classes in METHODS.items():
            tree = ast.parse((PACKAGE / (name + ".py")).read_text())
            for node in tree.body:
                if isinstance(node, ast.ClassDef) and node.name in classes:
                    made = {part.name for part in node.body if isinstance(part, ast.FunctionDef)}
                    self.assertLessEqual(set(classes[node.name].split()), made)


class Words(unittest.TestCase):
    def test_only_told_builtins(self):
        known = {name for name in dir(builtins) if not name.startswith("_")}
        for path, tree in trees():
            used = {node.id for node in ast.walk(tree) if isinstance(node, ast.Name)} & known
            self.assertLessEqual(used, BUILTINS, path)
            given = {node.arg for node in ast.walk(tree) if isinstance(node, ast.arg)}
            given |= {node.id for node in ast.walk(tree)
                      if isinstance(node, ast.Name) and isinstance(node.ctx, ast.Store)}
            given |= {node.name for node in tree.body if isinstance(node, (ast.FunctionDef, ast.ClassDef))}
            self.assertFalse(given & known, path)

    def test_no_generator_beside_equality(self):
        for path, tree in trees():
            self.assertFalse([node for node in ast.walk(tree) if isinstance(node, ast.GeneratorExp)], path)
            self.assertFalse([node for node in ast.walk(tree) if isinstance(node, ast.Lambda)
                              and isinstance(node.body, ast.Compare)], path)

    def test_no_barred_words(self):
        for path, tree in trees():
            names = {node.id for node in ast.walk(tree) if isinstance(node, ast.Name)}
            names |= {node.attr for node in ast.walk(tree) if isinstance(node, ast.Attribute)}
            names |= {node.value for node in ast.walk(tree)
                      if isinstance(node, ast.Constant) and isinstance(node.value, str)}
            self.assertFalse(names & set(BARRED), path)
            self.assertFalse([node for node in ast.walk(tree) if isinstance(node, (ast.AsyncFunctionDef, ast.Global))])

    def test_parameters_and_variables_hide_no_import(self):
        for path, tree in trees():
            told = {alias.name for node in imports(tree) for alias in node.names}
            told |= {node.name for node in tree.body if isinstance(node, ast.ClassDef)}
            given = {node.arg for node in ast.walk(tree) if isinstance(node, ast.arg)}
            given |= {node.id for node in ast.walk(tree)
                      if isinstance(node, ast.Name) and isinstance(node.ctx, ast.Store)}
            self.assertFalse(given & told, path)


METHODS_OF_VALUES = set("append clear copy count endswith extend find get index insert isalnum isalpha isdigit islower "
                        "isspace isupper items join keys ljust lower lstrip partition pop remove replace reverse rfind "
                        "rjust rpartition rsplit rstrip setdefault split splitlines startswith strip update upper "
                        "values zfill bit_length".split())
NOWHERE = set("register mro elements open input law version_info with_traceback add_note format format_map".split())
NO_VARIABLES = set("attrgetter breakpoint builtins compile copyright credits delattr dir eval exec exit gc getattr "
                   "globals hasattr help id importlib license locals methodcaller os quit setattr super type vars "
                   "sys map".split())
NO_ATTRIBUTES = set("items keys values pop update append clear extend insert remove reverse setdefault sort args "
                    "encode decode hex fromhex format".split())
ON_THE_SPOT = {"zip", "enumerate", "reversed", "range"}
TAKERS = {"list", "tuple", "dict", "sorted", "sum", "any", "all", "enumerate", "zip", "min", "max"}
UNUSED = (ast.Lambda, ast.GeneratorExp, ast.Yield, ast.YieldFrom, ast.With, ast.Match, ast.NamedExpr, ast.Global,
          ast.Nonlocal, ast.AsyncFunctionDef, ast.Await, ast.Delete, ast.Assert, ast.AnnAssign, ast.Div, ast.Pow)


def parents_of(tree):
    return {child: node for node in ast.walk(tree) for child in ast.iter_child_nodes(node)}


def called_name(node):
    return node.func.id if isinstance(node, ast.Call) and isinstance(node.func, ast.Name) else None


def is_walked_there(node, parent):
    """Whether an expression is what a loop or comprehension goes over, or the argument of what takes it at once."""
    if isinstance(parent, (ast.For, ast.comprehension)) and parent.iter is node:
        return True
    return called_name(parent) in TAKERS and node in parent.args


class Syntax(unittest.TestCase):
    def each_node(self):
        for path, tree in trees():
            parents = parents_of(tree)
            for node in ast.walk(tree):
                yield (path, getattr(node, "lineno", 0)), node, parents.get(node)

    def test_what_the_package_does_without(self):
        for where, node, _ in self.each_node():
            self.assertNotIsInstance(node, UNUSED, where)
            if isinstance(node, (ast.FunctionDef, ast.ClassDef)):
                self.assertEqual(node.decorator_list, [], where)
            if isinstance(node, ast.arg):
                self.assertIsNone(node.annotation, where)

    def test_names(self):
        for where, node, _ in self.each_node():
            names = [getattr(node, word, None) for word in ("id", "arg", "attr", "name")]
            for name in [name for name in names if isinstance(name, str)]:
                self.assertTrue(name.isascii(), where)
                dunder = name.startswith("__") and name.endswith("__")
                self.assertTrue(dunder or name.lstrip("_") == "" or name[name.startswith("_"):][0].isalpha(), where)
                self.assertNotIn(name, NOWHERE, where)
                self.assertFalse(name.startswith(("_wall", "_pe_", "_dcw_", "_enum_", "_cm_", "_sre", "_stub_")), where)
            if isinstance(node, (ast.Name, ast.arg)):
                self.assertNotIn(names[0] or names[1], NO_VARIABLES, where)
            if isinstance(node, ast.Name) and node.id == "_":
                self.assertIsInstance(node.ctx, ast.Store, where)
            if isinstance(node, ast.Attribute) and isinstance(node.ctx, ast.Store):
                self.assertNotIn(node.attr, NO_ATTRIBUTES, where)

    def test_methods_that_are_called(self):
        own = {part.name for _, tree in trees() for node in tree.body if isinstance(node, ast.ClassDef)
               for part in node.body if isinstance(part, ast.FunctionDef)}
        for where, node, parent in self.each_node():
            if isinstance(node, ast.Call) and isinstance(node.func, ast.Attribute):
                self.assertIn(node.func.attr, METHODS_OF_VALUES | own, where)
                self.assertFalse(node.keywords, where)
            read = isinstance(node, ast.Attribute) and isinstance(node.ctx, ast.Load)
            if read and node.attr in METHODS_OF_VALUES | own:
                self.assertTrue(isinstance(parent, ast.Call) and parent.func is node, where)

    def test_no_name_is_a_method_and_an_attribute_of_one_class(self):
        for path, tree in trees():
            for node in [node for node in tree.body if isinstance(node, ast.ClassDef)]:
                methods = [part.name for part in node.body if isinstance(part, ast.FunctionDef)]
                self.assertEqual(len(methods), len(set(methods)), path)
                stored = {part.attr for part in ast.walk(node)
                          if isinstance(part, ast.Attribute) and isinstance(part.ctx, ast.Store)}
                self.assertFalse(stored & set(methods), path)

    def test_what_is_iterated_at_once(self):
        for where, node, parent in self.each_node():
            if called_name(node) in ON_THE_SPOT:
                reversed_range = called_name(node) == "range" and called_name(parent) == "reversed"
                self.assertTrue(is_walked_there(node, parent) or reversed_range, where)
            if isinstance(node, ast.Call) and isinstance(node.func, ast.Attribute):
                if node.func.attr in ("items", "keys", "values"):
                    self.assertTrue(is_walked_there(node, parent), where)

    def test_sets_stand_on_the_spot(self):
        for where, node, parent in self.each_node():
            if isinstance(node, (ast.Set, ast.SetComp)) or called_name(node) == "set":
                compared = isinstance(parent, ast.Compare) and node in parent.comparators
                self.assertTrue(compared or called_name(parent) in ("sorted", "len"), where)
                self.assertFalse(getattr(parent, "keywords", []), where)

    def test_comparisons_by_is(self):
        for where, node, _ in self.each_node():
            if isinstance(node, ast.Compare):
                for sign, right in zip(node.ops, node.comparators):
                    if isinstance(sign, (ast.Is, ast.IsNot)):
                        self.assertTrue(isinstance(right, ast.Constant) and right.value in (None, True, False), where)

    def test_errors(self):
        home = ast.parse((PACKAGE / "errors.py").read_text())
        own = {node.name for node in home.body if isinstance(node, ast.ClassDef)}
        for where, node, _ in self.each_node():
            if isinstance(node, ast.Raise):
                self.assertIn(called_name(node.exc), own, where)
                self.assertIsNone(node.cause, where)
            if isinstance(node, ast.ExceptHandler):
                kinds = node.type.elts if isinstance(node.type, ast.Tuple) else [node.type]
                self.assertLessEqual({kind.id for kind in kinds}, own, where)
            if isinstance(node, ast.Try):
                self.assertEqual((node.orelse, node.finalbody), ([], []), where)

    def test_strings(self):
        for path, tree in trees():
            self.assertNotIn("\\", path.read_text(), path)
        for where, node, parent in self.each_node():
            if isinstance(node, ast.Constant) and isinstance(node.value, str) and not isinstance(parent, ast.Expr):
                self.assertFalse([sign for sign in ("%", "__") if sign in node.value], where)
                self.assertFalse(node.value.endswith("._"), where)
            if isinstance(node, ast.Constant):
                self.assertNotIsInstance(node.value, (float, complex, bytes), where)

    def test_module_level(self):
        for path, tree in trees():
            names = []
            for node in tree.body:
                if isinstance(node, ast.Expr):
                    self.assertIsInstance(node.value, ast.Constant, path)
                elif isinstance(node, ast.Assign):
                    self.assertEqual(len(node.targets), 1, path)
                    self.assertIsInstance(node.targets[0], ast.Name, path)
                    names.append(node.targets[0].id)
                elif isinstance(node, (ast.FunctionDef, ast.ClassDef)):
                    names.append(node.name)
                else:
                    self.assertIsInstance(node, ast.ImportFrom, path)
                    names.extend([alias.name for alias in node.names])
            self.assertEqual(len(names), len(set(names)), path)

    def test_no_comprehension_takes_a_name_of_one_around_it(self):
        kinds = (ast.ListComp, ast.SetComp, ast.DictComp)

        def targets(node):
            return {part.id for one in node.generators for part in ast.walk(one.target) if isinstance(part, ast.Name)}
        for where, node, _ in self.each_node():
            if isinstance(node, kinds):
                for part in ast.walk(node):
                    if isinstance(part, kinds) and part is not node:
                        self.assertFalse((targets(part) & targets(node)) - {"_"}, where)

    def test_what_is_imported_is_used(self):
        for path, tree in trees():
            used = {node.id for node in ast.walk(tree) if isinstance(node, ast.Name)}
            self.assertFalse({alias.name for node in imports(tree) for alias in node.names} - used, path)

    def test_no_local_name_hides_a_function_of_its_file(self):
        for path, tree in trees():
            made = {node.name for node in tree.body if isinstance(node, (ast.FunctionDef, ast.ClassDef))}
            stored = {node.id for node in ast.walk(tree) if isinstance(node, ast.Name) and isinstance(node.ctx, ast.Store)}
            self.assertFalse(stored & made, path)

    def test_parameters_that_are_changed(self):
        """[0.2]: no function modifies its arguments; what it made itself, it may."""
        for path, tree in trees():
            for node in ast.walk(tree):
                if isinstance(node, ast.FunctionDef):
                    given = {one.arg for one in node.args.args} - {"self"}
                    anew = {target.id for part in ast.walk(node) if isinstance(part, ast.Assign)
                            for one in part.targets for target in ast.walk(one)
                            if isinstance(target, ast.Name) and isinstance(target.ctx, ast.Store)}
                    # A number that is counted down by -= is no change of what was passed.
                    anew |= {part.target.id for part in ast.walk(node)
                             if isinstance(part, ast.AugAssign) and isinstance(part.target, ast.Name)}
                    changed = {name for name, _ in changes_in(node.body)}
                    self.assertFalse((given - anew) & changed - HELPED, (path, node.name))


WRONG_WALKS = ["""
    def many_nodes(plan, many):
        for a, b in plan:
            many[a] += many[b]
    """, """
    def first_chain(chains):
        while chains:
            longer = []
            for chain in chains:
                longer.append(chain + (1,))
            chains = longer
    """, """
    def one(xs):
        for x in xs:
            xs.append(x)
    """, """
    def one(xs):
        for k, x in enumerate(xs):
            xs[k] = x + 1
    """, """
    def one(self, more):
        for x in self.rows if more else self.less:
            self.less.pop()
    """, """
    def one(d):
        for k, x in d.items():
            del d[k]
    """, """
    def one(xs):
        ys = xs
        return [ys.pop() for x in xs]
    """, """
    def one(xs):
        xs.extend(xs)
    """, """
    def one(xs):
        xs.extend([x for x in xs])
    """, """
    def one(d):
        d[0] |= d
    """]
RIGHT_WALKS = ["""
    def many_nodes(plan, many):
        for a, b in plan:
            many[a] = many[a] + many[b]
    """, """
    def first_chain(chains):
        while chains:
            longer = []
            for chain in list(chains):
                longer.append(chain + (1,))
            chains = longer
    """, """
    def one(xs, ys):
        for x in xs:
            ys.append(x)
            ys += [x]
        ys.extend(list(ys))
        ys = ys + [len(ys)]
    """, """
    def one(xs):
        n = 0
        for k in range(len(xs)):
            xs[k] = n
            n += xs[k]
    """]


class Walks(unittest.TestCase):
    def test_nothing_is_changed_while_it_is_walked(self):
        for path, tree in trees():
            self.assertEqual(faults(tree), [], path)

    def test_such_rows_are_told(self):
        for text in WRONG_WALKS:
            self.assertEqual(len(faults(ast.parse(dedent(text)))), 1, text)
        for text in RIGHT_WALKS:
            self.assertEqual(faults(ast.parse(dedent(text))), [], text)


if __name__ == "__main__":
    unittest.main()
