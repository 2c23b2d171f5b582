"""Rules of the language that a look at the files can tell, and where the interface's names are defined."""

import ast
import builtins
import unittest
from pathlib import Path
from textwrap import dedent

from tests.walks import faults

PACKAGE = Path(__file__).resolve().parent.parent / "agreetwo"
FILES = sorted(PACKAGE.rglob("*.py"))

DEFINED = {
    "errors": "AgreeError TooMany UnlikeHeadings Empty BadGroup BadDeed NothingDone BadRow BadNumber BadFamily "
              "BadExchange Unlike BadHeading TooFew BadText BadName Clash Cored Folds Disagree Missing NoRow "
              "UnknownColumn UnknownName NoMoment",
    "headings": "is_heading shared together beyond part",
    "tables": "Table summed support is_within agree meet",
    "joints": "joint join",
    "tabletexts": "table_text read_table",
    "webs": "is_web columns_of cut largest",
    "ears": "ears folding judge_folding root",
    "trees": "tree_of judge_tree seam seams parts is_folding_tree",
    "cores": "core judge_core core_headings",
    "families": "check_family disagreement sums is_whole",
    "wholes": "whole whole_by bound lost whole_set",
    "broken": "lots_of core_rows broken",
    "steps": "done leaving is_clean full_plan",
    "plans": "unrolled data_of judge_plan judge_paper",
    "questions": "count_join scale_led nth place_of gathered",
    "fractions": "fraction plus minus multiplied over is_less share shares",
    "products": "product product_rows product_total free even_whole",
    "seeing": "apart kept_apart chance seen likeliest row_at",
    "splits": "is_split other_side lacking has_split must_split splits_of",
    "follows": "blocks follows",
    "parted": "parted_web added joins_back unsplit",
    "bounds": "least greatest whole_with bounds_over groups_over",
    "sure": "surely open_rows two_unlike judge_unlike is_settled spoiled",
    "exchanges": "exchanged judge_exchanges",
    "leading": "leading all_wholes two_wholes",
    "webchanges": "with_heading without_heading without_column renamed glued",
    "mends": "cores critical breaking healing",
    "orders": "made_headings width filled judge_order clean_order least_width best_order",
    "deeds": "web_of family_of behind fitted letters verdict deed_text read_deed",
    "house": "House came would_tell tried",
    "console": "Console",
}
METHODS = {"tables": {"Table": "__init__ heading rows counts times total __len__ __contains__ __iter__ __eq__ __add__ "
                               "__sub__ __mul__ __rmul__"},
           "house": {"House": "__init__ do undo redo branch go present state state_at __len__ here branches trail place "
                              "log merge twin __eq__"},
           "console": {"Console": "__init__ house say"}}

BUILTINS = set("len range enumerate zip min max sum abs sorted reversed int str bool list tuple dict set isinstance ord "
               "repr any all divmod iter next type ValueError LookupError KeyError NotImplemented".split())
LIBRARY = {"heapq", "math", "itertools", "collections"}
BARRED = ["typing", "enum", "Generic", "Protocol", "ABC", "namedtuple", "dataclass", "overload", "contextmanager"]


def trees():
    return [(path, ast.parse(path.read_text())) for path in FILES]


def imports(tree):
    return [node for node in ast.walk(tree) if isinstance(node, (ast.Import, ast.ImportFrom))]


class Files(unittest.TestCase):
    def test_the_folder_holds_only_python(self):
        for path in PACKAGE.rglob("*"):
            if "__pycache__" not in path.parts:
                self.assertTrue(path.is_dir() or path.suffix == ".py", path)
                self.assertTrue(path.is_dir() or path.name == path.name.lower(), path)
        self.assertTrue((PACKAGE / "__init__.py").is_file())

    def test_sizes_and_characters(self):
        for path, tree in trees():
            text = path.read_text()
            lines = text.split("\n")
            self.assertLessEqual(len(lines), 400, path)
            self.assertLessEqual(max(map(len, lines)), 120, path)
            self.assertFalse([sign for sign in text if sign != "\n" and not " " <= sign <= "~"], path)
            for node in ast.walk(tree):
                if isinstance(node, ast.FunctionDef):
                    self.assertLessEqual(node.end_lineno - node.lineno + 1, 40, (path, node.name))

    def test_docstrings(self):
        for path, tree in trees():
            self.assertTrue(ast.get_docstring(tree), path)
            for node in tree.body:
                if isinstance(node, (ast.FunctionDef, ast.ClassDef)):
                    self.assertTrue(ast.get_docstring(node), (path, node.name))


class Imports(unittest.TestCase):
    def test_forms(self):
        for path, tree in trees():
            for node in imports(tree):
                self.assertIsInstance(node, ast.ImportFrom, path)
                self.assertEqual(node.level, 0)
                self.assertIn(node, tree.body, path)
                for alias in node.names:
                    self.assertNotEqual(alias.name, "*")
                    self.assertIsNone(alias.asname, path)
                if node.module not in LIBRARY:
                    self.assertEqual(node.module.split(".")[0], "agreetwo")
                    home = ast.parse((PACKAGE / (node.module.split(".")[1] + ".py")).read_text())
                    for alias in node.names:
                        self.assertIn(alias.name, defined_names(home), (path, alias.name))

    def test_no_file_imports_itself_through_others(self):
        needs = {path.stem: {node.module.split(".")[-1] for node in imports(tree)} - LIBRARY for path, tree in trees()}
        while needs:
            free = [name for name in needs if not needs[name] & set(needs)]
            self.assertTrue(free, needs)
            for name in free:
                del needs[name]


def defined_names(tree):
    names = {node.name for node in tree.body if isinstance(node, (ast.FunctionDef, ast.ClassDef))}
    return names | {target.id for node in tree.body if isinstance(node, ast.Assign) for target in node.targets}


class Definitions(unittest.TestCase):
    def test_each_name_in_its_file(self):
        for name, told in DEFINED.items():
            tree = ast.parse((PACKAGE / (name + ".py")).read_text())
            made = {node.name for node in tree.body if isinstance(node, (ast.FunctionDef, ast.ClassDef))}
            self.assertLessEqual(set(told.split()), made, name)

    def test_each_method_in_its_class(self):
        for name, classes in METHODS.items():
            tree = ast.parse((PACKAGE / (name + ".py")).read_text())
            for node in tree.body:
                if isinstance(node, ast.ClassDef) and node.name in classes:
                    made = {part.name for part in node.body if isinstance(part, ast.FunctionDef)}
                    self.assertLessEqual(set(classes[node.name].split()), made)


class Words(unittest.TestCase):
    def test_only_told_builtins(self):
        known = {name for name in dir(builtins) if not name.startswith("_")}
        for path, tree in trees():
            used = {node.id for node in ast.walk(tree) if isinstance(node, ast.Name)} & known
            self.assertLessEqual(used, BUILTINS, path)
            given = {node.arg for node in ast.walk(tree) if isinstance(node, ast.arg)}
            given |= {node.id for node in ast.walk(tree)
                      if isinstance(node, ast.Name) and isinstance(node.ctx, ast.Store)}
            given |= {node.name for node in tree.body if isinstance(node, (ast.FunctionDef, ast.ClassDef))}
            self.assertFalse(given & known, path)

    def test_no_generator_beside_equality(self):
        for path, tree in trees():
            self.assertFalse([node for node in ast.walk(tree) if isinstance(node, ast.GeneratorExp)], path)
            self.assertFalse([node for node in ast.walk(tree) if isinstance(node, ast.Lambda)
                              and isinstance(node.body, ast.Compare)], path)

    def test_no_barred_words(self):
        for path, tree in trees():
            names = {node.id for node in ast.walk(tree) if isinstance(node, ast.Name)}
            names |= {node.attr for node in ast.walk(tree) if isinstance(node, ast.Attribute)}
            names |= {node.value for node in ast.walk(tree)
                      if isinstance(node, ast.Constant) and isinstance(node.value, str)}
            self.assertFalse(names & set(BARRED), path)
            self.assertFalse([node for node in ast.walk(tree) if isinstance(node, (ast.AsyncFunctionDef, ast.Global))])

    def test_parameters_and_variables_hide_no_import(self):
        for path, tree in trees():
            told = {alias.name for node in imports(tree) for alias in node.names}
            told |= {node.name for node in tree.body if isinstance(node, ast.ClassDef)}
            given = {node.arg for node in ast.walk(tree) if isinstance(node, ast.arg)}
            given |= {node.id for node in ast.walk(tree)
                      if isinstance(node, ast.Name) and isinstance(node.ctx, ast.Store)}
            self.assertFalse(given & told, path)


WRONG_WALKS = ["""
    def many_nodes(plan, many):
        for a, b in plan:
            many[a] += many[b]
    """, """
    def first_chain(chains):
        while chains:
            longer = []
            for chain in chains:
                longer.append(chain + (1,))
            chains = longer
    """, """
    def one(xs):
        for x in xs:
            xs.append(x)
    """, """
    def one(xs):
        for k, x in enumerate(xs):
            xs[k] = x + 1
    """, """
    def one(self, more):
        for x in self.rows if more else self.less:
            self.less.pop()
    """, """
    def one(d):
        for k, x in d.items():
            del d[k]
    """, """
    def one(xs):
        ys = xs
        return [ys.pop() for x in xs]
    """, """
    def one(xs):
        xs.extend(xs)
    """, """
    def one(xs):
        xs.extend([x for x in xs])
    """, """
    def one(d):
        d[0] |= d
    """]
RIGHT_WALKS = ["""
    def many_nodes(plan, many):
        for a, b in plan:
            many[a] = many[a] + many[b]
    """, """
    def first_chain(chains):
        while chains:
            longer = []
            for chain in list(chains):
                longer.append(chain + (1,))
            chains = longer
    """, """
    def one(xs, ys):
        for x in xs:
            ys.append(x)
            ys += [x]
        ys.extend(list(ys))
        ys = ys + [len(ys)]
    """, """
    def one(xs):
        n = 0
        for k in range(len(xs)):
            xs[k] = n
            n += xs[k]
    """]


class Walks(unittest.TestCase):
    def test_nothing_is_changed_while_it_is_walked(self):
        for path, tree in trees():
            self.assertEqual(faults(tree), [], path)

    def test_such_rows_are_told(self):
        for text in WRONG_WALKS:
            self.assertEqual(len(faults(ast.parse(dedent(text)))), 1, text)
        for text in RIGHT_WALKS:
            self.assertEqual(faults(ast.parse(dedent(text))), [], text)


if __name__ == "__main__":
    unittest.main()
