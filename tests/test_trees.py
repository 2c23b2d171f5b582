"""[2.4]: trees."""

import itertools
import unittest

from agreetwo.ears import folding
from agreetwo.trees import is_folding_tree, judge_tree, parts, seam, seams, tree_of
from agreetwo.webs import columns_of
from tests import webways
from tests.support import CHAIN, RING, any_values, drawn, drawn_web


class TreeOf(unittest.TestCase):
    def test_by_hand(self):
        self.assertEqual(tree_of(((2, 1), (1, 0))), ((0, 1), (1, 2)))
        self.assertEqual(tree_of(((3, 2), (0, 2), (2, 1))), ((0, 2), (1, 2), (2, 3)))
        self.assertEqual(tree_of(()), ())

    def test_drawn(self):
        rng = drawn(71)
        for _ in range(200):
            web = drawn_web(rng)
            pairs = folding(web)
            if pairs is not None:
                self.assertIsNone(judge_tree(web, tree_of(pairs)))
                self.assertIs(is_folding_tree(web, tree_of(pairs)), True)
                self.assertEqual({frozenset(tie) for tie in tree_of(pairs)}, {frozenset(pair) for pair in pairs})


class JudgeTree(unittest.TestCase):
    def test_by_hand(self):
        self.assertEqual(judge_tree(RING, ((0, 1), (0, 3), (1, 3))), ("ring", 2))
        self.assertIsNone(judge_tree(RING, ((0, 1), (0, 2), (0, 3))))
        self.assertIsNone(judge_tree(RING, ((0, 2), (1, 2), (1, 3))))
        self.assertIsNone(judge_tree(((),), ()))
        self.assertEqual(judge_tree(RING + ((),), ((0, 1), (0, 2), (1, 2), (3, 4))), ("ring", 2))
        self.assertEqual(judge_tree(RING + ((),), ((0, 2), (0, 3), (1, 4), (2, 3))), ("ring", 3))

    def test_all_of_small_webs(self):
        for many in range(1, 6):
            web = ((),) * many
            trees = webways.all_trees(web)
            for value in itertools.combinations(itertools.combinations(range(many), 2), many - 1):
                told = judge_tree(web, value)
                self.assertEqual(told is None, value in trees)
                if told is not None:
                    self.assertEqual(told, ("ring", first_ring(many, value)))

    def test_wrong_forms(self):
        for value in [((0, 1),), ((0, 1), (0, 2), (1, 2)), (), [(0, 1), (1, 2)], ([0, 1], (1, 2)), ((0, 1), [1, 2]),
                      ((1, 2), (0, 1)), ((0, 1), (0, 1)), ((1, 0), (1, 2)), ((0, 1), (2, 1)), ((0, 0), (1, 2)),
                      ((0, 1), (1, 3)), ((-1, 1), (1, 2)), ((0, 1), (2, 2)), ((0, True), (1, 2)), ((False, 1), (1, 2)),
                      ((0, 1), (1,)), ((0, 1), (1, 2, 3)), ((0, 1), None), ((0, 1), "12"), ((0, 1), (1, "2")),
                      ((0, 1), (None, 2)), "ab", None, 2, {(0, 1): (1, 2)}]:
            self.assertEqual(judge_tree(CHAIN, value), ("form",), value)

    def test_form_comes_first(self):
        self.assertEqual(judge_tree(RING, ((0, 1), (0, 1), (0, 1))), ("form",))
        self.assertEqual(judge_tree(RING, ((0, 1), (0, 2), (1, True))), ("form",))

    def test_any_value(self):
        for value in any_values():
            self.assertEqual(judge_tree(CHAIN, value), None if value == ((0, 1), (1, 2)) else ("form",), value)
            right = isinstance(value, tuple) and value == ()
            self.assertEqual(judge_tree((("a",),), value), None if right else ("form",), value)
            one_tie = isinstance(value, tuple) and value == ((0, 1),)
            self.assertEqual(judge_tree((("a",), ("b",)), value), None if one_tie else ("form",), value)


def first_ring(many, ties):
    for k in range(len(ties)):
        if webways.pieces_of(range(many), ties[:k + 1]) == webways.pieces_of(range(many), ties[:k]):
            return k
    return None


class Seams(unittest.TestCase):
    def test_by_hand(self):
        self.assertEqual([seam(CHAIN, 0, 1), seam(CHAIN, 1, 0), seam(CHAIN, 0, 2)], [("b",), ("b",), ()])
        self.assertEqual(seam((tuple("abcd"), tuple("bdef")), 0, 1), ("b", "d"))
        self.assertEqual(seams(CHAIN, ((0, 1), (1, 2))), [("b",), ("c",)])
        self.assertEqual(seams(CHAIN, ((0, 2), (1, 2))), [(), ("c",)])
        self.assertEqual(seams((("b", "c"), ("c",), ("a", "b")), ((0, 1), (0, 2))), [("b",), ("c",)])
        self.assertEqual(seams((("a",),) * 3, ((0, 1), (1, 2))), [("a",), ("a",)])
        self.assertEqual(seams((("a",), ("b",), ("c",)), ((0, 1), (1, 2))), [(), ()])
        self.assertEqual(seams(((),), ()), [])
        self.assertIsInstance(seams(CHAIN, ((0, 1), (1, 2))), list)


class Parts(unittest.TestCase):
    def test_by_hand(self):
        tree = ((0, 1), (1, 2), (2, 3))
        self.assertEqual([parts(RING, tree, column) for column in "abcdx"], [2, 1, 1, 1, 0])
        self.assertEqual(parts((("a",), ("b",), ("a",)), ((0, 1), (1, 2)), "a"), 2)
        self.assertEqual(parts((("a",), ("b",), ("a",)), ((0, 1), (0, 2)), "a"), 1)
        self.assertEqual([parts((("a",),), (), "a"), parts(((),), (), "a")], [1, 0])

    def test_drawn(self):
        rng = drawn(72)
        for _ in range(60):
            web = drawn_web(rng, most_headings=5, widest=3)
            for tree in webways.all_trees(web)[::3]:
                for column in columns_of(web) + ("zz",):
                    nodes = [x for x in range(len(web)) if column in web[x]]
                    self.assertEqual(parts(web, tree, column), webways.pieces_of(nodes, tree))


class FoldingTrees(unittest.TestCase):
    def test_by_hand(self):
        self.assertIs(is_folding_tree(CHAIN, ((0, 1), (1, 2))), True)
        self.assertIs(is_folding_tree(CHAIN, ((0, 1), (0, 2))), False)
        self.assertIs(is_folding_tree(CHAIN, ((0, 2), (1, 2))), False)
        self.assertIs(is_folding_tree(((),), ()), True)
        self.assertIs(is_folding_tree((("a",), ("b",), ()), ((0, 2), (1, 2))), True)
        for tree in webways.all_trees(RING):
            self.assertIs(is_folding_tree(RING, tree), False)

    def test_they_are_those_of_the_foldings(self):
        rng = drawn(73)
        for _ in range(80):
            web = drawn_web(rng, most_headings=4, widest=3)
            told = {tree for tree in webways.all_trees(web) if is_folding_tree(web, tree)}
            self.assertEqual(told, {tree_of(pairs) for pairs in webways.all_foldings(web)})
            self.assertLessEqual(len({tuple(seams(web, tree)) for tree in told}), 1)


if __name__ == "__main__":
    unittest.main()
