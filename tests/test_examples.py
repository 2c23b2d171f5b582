"""The interface's examples, as they stand in the document."""

import doctest
import unittest
from pathlib import Path

from agreetwo.cores import core, core_headings, judge_core
from agreetwo.ears import ears, folding, judge_folding, root
from agreetwo.errors import BadFamily, BadRow, BadText, Disagree, NoRow, TooFew, TooMany
from agreetwo.families import check_family, disagreement, is_whole, sums
from agreetwo.headings import beyond, is_heading, part, shared, together
from agreetwo.joints import join, joint
from agreetwo.tables import Table, agree, meet, summed, support
from agreetwo.tabletexts import read_table, table_text
from agreetwo.trees import is_folding_tree, judge_tree, parts, seam, seams, tree_of
from agreetwo.webs import columns_of, cut, is_web, largest
from tests.support import raised

AB, BC = ("a", "b"), ("b", "c")
LEFT = Table(AB, [((0, 1), 3), ((2, 2), 1), ((0, 1), 2)])
RIGHT = Table(BC, [((1, 0), 4), ((1, 5), 1), ((2, 0), 1)])
CHAIN, RING = (("a", "b"), ("b", "c"), ("c", "d")), (("a", "b"), ("b", "c"), ("c", "d"), ("a", "d"))
SHELL = (("a", "b"), ("a", "c"), ("b", "c"))
PAIR = (("a", "b"), ("b", "c"))


class StageOne(unittest.TestCase):
    def test_errors(self):
        self.assertEqual([Disagree(0, 1, (2,)).row, NoRow(5).row, TooMany().called], [(2,), 5, "TooMany"])

    def test_headings(self):
        self.assertEqual(
            [is_heading(AB), is_heading(("b", "a")), shared(AB, BC), together(AB, BC), beyond(AB, BC),
             part(AB, (7, 2), BC)],
            [True, False, ("b",), ("a", "b", "c"), ("a",), (2,)])

    def test_tables(self):
        self.assertEqual(
            [LEFT.counts(), LEFT.times((0, 1)), LEFT.total(), len(LEFT), (0, 2) in LEFT, [row for row in RIGHT]],
            [[((0, 1), 5), ((2, 2), 1)], 5, 6, 2, False, [(1, 0), (1, 5), (2, 0)]])
        self.assertEqual(
            [(LEFT + LEFT).total(), (2 * LEFT - LEFT) == LEFT, summed(RIGHT, AB).counts(), agree(LEFT, RIGHT),
             agree(LEFT, RIGHT * 2)],
            [12, True, [((1,), 5), ((2,), 1)], None, (1,)])
        self.assertEqual([meet(LEFT, RIGHT * 2), support(LEFT).counts()], [None, [((0, 1), 1), ((2, 2), 1)]])
        self.assertEqual(raised(TooFew, lambda: LEFT - 2 * LEFT).row, (0, 1))

    def test_joints(self):
        self.assertEqual(
            [joint(LEFT, RIGHT).counts(), join([LEFT, RIGHT]).rows()],
            [[((0, 1, 0), 4), ((0, 1, 5), 1), ((2, 2, 0), 1)], [(0, 1, 0), (0, 1, 5), (2, 2, 0)]])

    def test_tabletexts(self):
        self.assertEqual(
            [table_text(LEFT), table_text(Table((), [((), 5)])), read_table("[a b] (0 1) 5 (2 2) 1") == LEFT],
            ["[a b] (0 1) 5 (2 2) 1", "[] () 5", True])
        self.assertEqual(raised(BadText, read_table, "[a b] (0) 1").place, 8)
        self.assertEqual(raised(BadRow, read_table, "[a] (0) 1 (0) 2").number, 1)


class StageTwo(unittest.TestCase):
    def test_webs(self):
        self.assertEqual(
            [is_web(CHAIN), is_web(()), columns_of(RING), cut(CHAIN, ("b", "d")), largest(cut(CHAIN, ("b", "d")))],
            [True, False, ("a", "b", "c", "d"), (("b",), ("b",), ("d",)), [0, 2]])

    def test_ears(self):
        self.assertEqual(
            [ears(CHAIN, (0, 1, 2)), folding(CHAIN), root(CHAIN, ((0, 1), (1, 2))), folding(RING), folding(SHELL)],
            [[(0, 1), (2, 1)], ((0, 1), (1, 2)), 2, None, None])
        self.assertEqual(
            [judge_folding(CHAIN, ((2, 1), (1, 0))), judge_folding(CHAIN, ((1, 0), (0, 2))),
             judge_folding(CHAIN, ((0, 1),))],
            [None, ("ear", 0), ("form",)])

    def test_trees(self):
        self.assertEqual(
            [tree_of(((2, 1), (1, 0))), judge_tree(RING, ((0, 1), (0, 3), (1, 3))), seam(CHAIN, 0, 2),
             seams(CHAIN, ((0, 1), (1, 2)))],
            [((0, 1), (1, 2)), ("ring", 2), (), [("b",), ("c",)]])
        self.assertEqual(
            [parts(RING, ((0, 1), (1, 2), (2, 3)), "a"), is_folding_tree(CHAIN, ((0, 1), (1, 2))),
             is_folding_tree(CHAIN, ((0, 1), (0, 2)))],
            [2, True, False])

    def test_cores(self):
        self.assertEqual(
            [core(CHAIN), core(RING), core(SHELL), core_headings(core(SHELL))],
            [None, ("ring", ("a", "b", "c", "d")), ("shell", ("a", "b", "c")), [("b", "c"), ("a", "c"), ("a", "b")]])
        self.assertEqual(
            [judge_core(RING, ("ring", ("a", "c", "b", "d"))), judge_core(SHELL[:2], ("shell", ("a", "b", "c")))],
            [("cut", 0), ("lacks", ("b", "c"))])
        self.assertEqual(core((("a", "c"), ("b", "c"), ("b", "d"), ("a", "d"))), ("ring", ("a", "c", "b", "d")))

    def test_families(self):
        self.assertEqual(
            [check_family(PAIR, [LEFT, RIGHT]), disagreement(PAIR, [LEFT, RIGHT]),
             disagreement(PAIR, [LEFT, RIGHT * 2])],
            [None, None, (0, 1, (1,))])
        self.assertEqual(
            [is_whole(PAIR, [LEFT, RIGHT], joint(LEFT, RIGHT)), sums(PAIR, joint(LEFT, RIGHT)) == [LEFT, RIGHT]],
            [True, True])
        self.assertEqual(raised(BadFamily, check_family, PAIR, [LEFT, LEFT]).number, 1)


class Readme(unittest.TestCase):
    def test_its_examples(self):
        readme = Path(__file__).resolve().parent.parent / "README.md"
        told = doctest.testfile(str(readme), module_relative=False)
        self.assertEqual(told.failed, 0)
        self.assertGreater(told.attempted, 0)


if __name__ == "__main__":
    unittest.main()
