"""[2.5] and [2.6]: cores."""

import itertools
import unittest

from agreetwo.cores import core, core_headings, judge_core
from agreetwo.ears import folding, judge_folding
from agreetwo.webs import columns_of, cut, is_web, largest
from tests import webways
from tests.support import CHAIN, RING, SHELL, any_values, drawn, drawn_tangle, drawn_web, ring_web, shell_web


class Core(unittest.TestCase):
    def test_webs_that_fold(self):
        for web in [CHAIN, ((),), (("a", "b"),), SHELL[:2], SHELL + (("a", "b", "c"),), ((),) * 7, RING[:3],
                    RING + (("a", "b", "c", "d"),), (tuple("abcdefgh"),) * 7]:
            self.assertIsNone(core(web))

    def test_rings_of_four_to_seven_columns(self):
        for many in range(4, 8):
            columns = tuple("abcdefg"[:many])
            self.assertEqual(core(ring_web(columns)), ("ring", columns))
            for web in ([ring_web(columns)[::-1]] + [ring_web(columns)[k:] + ring_web(columns)[:k] for k in (1, 2)]):
                self.assertEqual(core(web), ("ring", columns))

    def test_shells_of_three_to_seven_columns(self):
        for many in range(3, 8):
            columns = tuple("abcdefg"[:many])
            self.assertEqual(core(shell_web(columns)), ("shell", columns))
            self.assertEqual(core(shell_web(columns)[::-1]), ("shell", columns))

    def test_the_circle_begins_with_the_least_and_goes_to_its_lesser_neighbour(self):
        self.assertEqual(core((("a", "c"), ("b", "c"), ("b", "d"), ("a", "d"))), ("ring", ("a", "c", "b", "d")))
        self.assertEqual(core((("a", "b"), ("b", "d"), ("c", "d"), ("a", "c"))), ("ring", ("a", "b", "d", "c")))
        for circle in webways.circles(tuple("abcde")):
            self.assertEqual(core(ring_web(circle)), ("ring", circle))

    def test_headings_within_and_beside_the_core(self):
        self.assertEqual(core(SHELL + (("a",), (), ("a", "x"), ("b", "c"))), ("shell", ("a", "b", "c")))
        wide = (("a", "b", "x"), ("b", "c", "y"), ("c", "d"), ("a", "d"), ("a", "b"))
        self.assertEqual(core(wide), ("ring", ("a", "b", "c", "d")))

    def test_of_two_the_one_with_the_fewest_columns(self):
        ring, shell = RING, (("w", "x"), ("w", "y"), ("x", "y"))
        self.assertEqual(core(ring + shell), ("shell", ("w", "x", "y")))
        self.assertEqual(core(shell + ring), ("shell", ("w", "x", "y")))
        ring, shell = ring_web(tuple("efgh")), shell_web(("b", "c", "d"))
        self.assertEqual(core(ring + shell), ("shell", ("b", "c", "d")))

    def test_of_two_with_as_many_the_first_by_its_columns(self):
        both = (("d", "e"), ("c", "d"), ("c", "e"), ("a", "b"), ("b", "c"), ("a", "c"))
        self.assertEqual(core(both), ("shell", ("a", "b", "c")))
        three_rings = (("b", "e"), ("a", "e"), ("b", "d"), ("a", "d"), ("b", "c"), ("a", "c"))
        self.assertEqual(core(three_rings), ("ring", ("a", "c", "b", "d")))

    def test_the_columns_are_compared_as_a_heading(self):
        # As circles, (a, c, f, e) would come ahead of (a, d, b, e); as headings, (a, b, d, e) comes first.
        web = (("a", "c"), ("c", "f"), ("e", "f"), ("a", "e"), ("a", "d"), ("b", "d"), ("b", "e"))
        self.assertEqual(webways.all_cores(web)[:2], [("ring", ("a", "d", "b", "e")), ("ring", ("a", "c", "f", "e"))])
        self.assertEqual(core(web), ("ring", ("a", "d", "b", "e")))

    def test_drawn(self):
        rng = drawn(81)
        kinds = {}
        for k in range(700):
            web = drawn_tangle(rng, "abcdefg") if k % 2 else drawn_web(rng, most_columns=7, widest=2 + k % 3)
            cores = webways.all_cores(web)
            told = core(web)
            self.assertEqual(told, cores[0] if cores else None, web)
            self.assertEqual(folding(web) is None, told is not None, web)
            for found in cores:
                self.assertIsNone(judge_core(web, found))
            kind = (told[0], len(told[1])) if told else None
            kinds[kind] = kinds.get(kind, 0) + 1
        for kind in (None, ("shell", 3), ("shell", 4), ("ring", 4), ("ring", 5)):
            self.assertIn(kind, kinds)


class FoldOrCore(unittest.TestCase):
    """[2.6], for many drawn webs and for all webs of pairs of five columns of up to six headings."""

    def look_at(self, web):
        pairs, found = folding(web), core(web)
        self.assertEqual([pairs, found].count(None), 1, web)
        if found is None:
            self.assertIsNone(judge_folding(web, pairs))
        else:
            self.assertIsNone(judge_core(web, found))
            narrow = cut(web, tuple(sorted(found[1])))
            self.assertEqual(sorted(core_headings(found)), sorted([narrow[x] for x in largest(narrow)]))
            self.assertIsNone(folding(tuple(core_headings(found))))

    def test_drawn(self):
        rng = drawn(82)
        for k in range(800):
            web = drawn_tangle(rng) if k % 2 else drawn_web(rng, widest=2 + k % 4)
            self.assertIs(is_web(web), True)
            self.look_at(web)

    def test_webs_of_pairs(self):
        pairs = list(itertools.combinations("abcde", 2))
        for many in range(3, 7):
            for web in itertools.combinations(pairs, many):
                self.look_at(web)


class CoreHeadings(unittest.TestCase):
    def test_by_hand(self):
        self.assertEqual(core_headings(("shell", ("a", "b", "c"))), [("b", "c"), ("a", "c"), ("a", "b")])
        self.assertEqual(core_headings(("shell", ("a", "b", "c", "d"))),
                         [("b", "c", "d"), ("a", "c", "d"), ("a", "b", "d"), ("a", "b", "c")])
        self.assertEqual(core_headings(("ring", ("a", "c", "b", "d"))),
                         [("a", "c"), ("b", "c"), ("b", "d"), ("a", "d")])
        self.assertEqual(core_headings(("ring", ("a", "b", "e", "d", "c"))),
                         [("a", "b"), ("b", "e"), ("d", "e"), ("c", "d"), ("a", "c")])

    def test_returned_lists_are_new(self):
        found = core(SHELL)
        core_headings(found).clear()
        self.assertEqual(len(core_headings(found)), 3)
        self.assertIsInstance(core_headings(("ring", ("a", "b", "c", "d"))), list)


class JudgeCore(unittest.TestCase):
    def test_cores(self):
        self.assertIsNone(judge_core(RING, ("ring", ("a", "b", "c", "d"))))
        self.assertIsNone(judge_core(SHELL, ("shell", ("a", "b", "c"))))
        both = RING + (("d", "e"), ("d", "f"), ("e", "f"))
        self.assertIsNone(judge_core(both, ("ring", ("a", "b", "c", "d"))))
        self.assertIsNone(judge_core(both, ("shell", ("d", "e", "f"))))

    def test_cut_and_lacks(self):
        self.assertEqual(judge_core(RING, ("ring", ("a", "c", "b", "d"))), ("cut", 0))
        self.assertEqual(judge_core(SHELL[:2], ("shell", ("a", "b", "c"))), ("lacks", ("b", "c")))
        self.assertEqual(judge_core(SHELL[1:], ("shell", ("a", "b", "c"))), ("lacks", ("a", "b")))
        self.assertEqual(judge_core(SHELL + (("a", "b", "c"),), ("shell", ("a", "b", "c"))), ("cut", 3))
        self.assertEqual(judge_core((("a", "b", "x"),) + SHELL + (("a", "b", "c"),), ("shell", ("a", "b", "c"))),
                         ("cut", 4))
        self.assertEqual(judge_core(RING[:3], ("ring", ("a", "b", "c", "d"))), ("lacks", ("a", "d")))
        self.assertEqual(judge_core(RING[1:], ("ring", ("a", "b", "c", "d"))), ("lacks", ("a", "b")))
        self.assertEqual(judge_core(RING + (("a", "c"),), ("ring", ("a", "b", "c", "d"))), ("cut", 4))
        self.assertEqual(judge_core(RING, ("shell", ("a", "b", "c"))), ("lacks", ("a", "c")))
        self.assertEqual(judge_core((("a", "b"), ("c",), ("d",)), ("ring", ("a", "b", "c", "d"))),
                         ("lacks", ("b", "c")))

    def test_cut_comes_before_lacks(self):
        self.assertEqual(judge_core((("a", "b"), ("a", "b", "c")), ("shell", ("a", "b", "c"))), ("cut", 1))

    def test_wrong_forms(self):
        four = ("a", "b", "c", "d")
        for value in [("ring", ("a", "b", "c")), ("ring", ("b", "c", "d", "a")), ("ring", ("a", "d", "c", "b")),
                      ("ring", ("b", "a", "d", "c")), ("ring", ("d", "a", "b", "c")), ("ring", ("c", "b", "a", "d")),
                      ("ring", ("a", "b", "c", "c")), ("ring", ("a", "b", "b", "d")), ("ring", ("a", "b", "c", "x")),
                      ("ring", ["a", "b", "c", "d"]), ["ring", four], ("ring",), ("ring", four, four), ("ring",) + four,
                      ("round", four), (None, four), (True, four), (four, "ring"), ("ring", "abcd"), ("ring", None),
                      ("ring", ()), ("shell", ()), ("shell", ("a", "b")), ("shell", ("b", "a", "c")),
                      ("shell", ("a", "a", "b")), ("shell", ("a", "b", "x")), ("shell", ["a", "b", "c"]),
                      ("shell", ("a", "b", 3)), ("shell", ("a", "b", ["c"])), ("ring", ("a", "b", "c", {})),
                      ("ring", ("a", "b", "c", None)), ("ring", ("a", "b", "c", True)), (["ring"], four), ({}, four),
                      ("shell", ("a", "c", "b")), "ring", (), None, (("ring", four),), ("Ring", four), ("", four)]:
            self.assertEqual(judge_core(RING, value), ("form",), value)

    def test_right_forms(self):
        self.assertEqual(judge_core(CHAIN, ("ring", ("a", "b", "d", "c"))), ("cut", 1))
        self.assertEqual(judge_core(CHAIN, ("shell", ("a", "b", "c", "d"))), ("lacks", ("b", "c", "d")))

    def test_any_value(self):
        for web in (RING, SHELL, ((),)):
            for value in any_values():
                self.assertEqual(judge_core(web, value), ("form",), value)

    def test_drawn(self):
        rng = drawn(83)
        for _ in range(200):
            web = drawn_tangle(rng, "abcde")
            cores = webways.all_cores(web)
            columns = columns_of(web)
            for many in range(3, len(columns) + 1):
                for chosen in itertools.combinations(columns, many):
                    values = [("shell", chosen)] + [("ring", circle) for circle in webways.circles(chosen) if many > 3]
                    for value in values:
                        self.assertEqual(judge_core(web, value) is None, value in cores, (web, value))


if __name__ == "__main__":
    unittest.main()
