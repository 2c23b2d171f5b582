"""[2.2] and [2.3]: ears and foldings; with [2.6]."""

import unittest

from agreetwo.ears import ears, folding, judge_folding, root
from tests import webways
from tests.support import CHAIN, RING, SHELL, any_values, drawn, drawn_tangle, drawn_web

STAR = (("a", "x"), ("a", "b", "c"), ("b", "y"), ("c", "z"))


class Ears(unittest.TestCase):
    def test_by_hand(self):
        self.assertEqual(ears(CHAIN, (0, 1, 2)), [(0, 1), (2, 1)])
        self.assertEqual(ears(CHAIN, (1, 2)), [(1, 2), (2, 1)])
        self.assertEqual(ears(CHAIN, (0, 2)), [(0, 2), (2, 0)])
        self.assertEqual(ears(RING, (0, 1, 2, 3)), [])
        self.assertEqual(ears(RING, (0, 1, 3)), [(1, 0), (3, 0)])
        self.assertEqual(ears(SHELL, (0, 1, 2)), [])
        self.assertEqual(ears(STAR, (0, 1, 2, 3)), [(0, 1), (2, 1), (3, 1)])

    def test_only_the_lot_counts(self):
        self.assertEqual([ears(CHAIN, (1,)), ears(CHAIN, ()), ears(((),), (0,))], [[], [], []])

    def test_nothing_in_common_is_an_ear_by_each(self):
        web = (("a",), ("b",), ("c", "d"))
        self.assertEqual(ears(web, (0, 1, 2)), [(0, 1), (0, 2), (1, 0), (1, 2), (2, 0), (2, 1)])
        self.assertEqual(ears(((), ("a", "b"), ("b", "c")), (0, 1, 2)), [(0, 1), (0, 2), (1, 2), (2, 1)])

    def test_alike_and_within(self):
        self.assertEqual(ears((("a", "b"), ("a", "b")), (0, 1)), [(0, 1), (1, 0)])
        self.assertEqual(ears((("a",), ("a", "b"), ("b", "c")), (0, 1, 2)), [(0, 1), (2, 1)])
        self.assertEqual(ears((("a", "b"), ("b", "c"), ("a", "c"), ("a", "b", "c")), (0, 1, 2, 3)),
                         [(0, 3), (1, 3), (2, 3)])

    def test_drawn(self):
        rng = drawn(61)
        for k in range(300):
            web = drawn_tangle(rng) if k % 2 else drawn_web(rng)
            lot = tuple(sorted(rng.sample(range(len(web)), rng.randint(0, len(web)))))
            self.assertEqual(ears(web, lot), webways.all_ears(web, lot))

    def test_returned_lists_are_new(self):
        ears(CHAIN, (0, 1, 2)).clear()
        self.assertEqual(ears(CHAIN, (0, 1, 2)), [(0, 1), (2, 1)])


class Folding(unittest.TestCase):
    def test_by_hand(self):
        self.assertEqual(folding(CHAIN), ((0, 1), (1, 2)))
        self.assertEqual([folding(RING), folding(SHELL)], [None, None])
        self.assertEqual(folding(STAR), ((0, 1), (2, 1), (1, 3)))
        self.assertEqual(folding(SHELL + (("a", "b", "c"),)), ((0, 3), (1, 3), (2, 3)))
        self.assertEqual(folding((("a",), ("b",), ("c",))), ((0, 1), (1, 2)))

    def test_one_heading_and_seven(self):
        self.assertEqual([folding(((),)), folding((("a", "b"),))], [(), ()])
        self.assertEqual(folding(((),) * 7), tuple([(k, k + 1) for k in range(6)]))
        self.assertEqual(folding((("a", "b"),) * 7), tuple([(k, k + 1) for k in range(6)]))

    def test_drawn(self):
        rng = drawn(62)
        told = {True: 0, False: 0}
        for k in range(1500):
            web = drawn_tangle(rng) if k % 2 else drawn_web(rng)
            pairs = folding(web)
            self.assertEqual(pairs, webways.first_folding(web), web)
            self.assertEqual(pairs is not None, webways.folds_by_weight(web), web)
            if pairs is not None:
                self.assertIsNone(judge_folding(web, pairs))
            told[pairs is None] += 1
        self.assertGreater(min(told.values()), 100)

    def test_no_other_choice_would_find_more(self):
        rng = drawn(63)
        for _ in range(150):
            web = drawn_web(rng, most_headings=4)
            foldings = webways.all_foldings(web)
            self.assertEqual(folding(web), foldings[0] if foldings else None)


class JudgeFolding(unittest.TestCase):
    def test_foldings(self):
        for pairs in [((2, 1), (1, 0)), ((0, 1), (1, 2)), ((0, 1), (2, 1)), ((2, 1), (0, 1)), ((0, 1), (2, 1))]:
            self.assertIsNone(judge_folding(CHAIN, pairs))
        self.assertIsNone(judge_folding(((),), ()))

    def test_all_of_a_small_web(self):
        rng = drawn(64)
        for _ in range(40):
            web = drawn_web(rng, most_headings=3, most_columns=4, widest=3)
            many = len(web)
            foldings = webways.all_foldings(web)
            pairs = [(x, y) for x in range(many) for y in range(many) if x != y]
            for value in ([()] if many == 1 else [(p,) for p in pairs] + [(p, q) for p in pairs for q in pairs]):
                told = judge_folding(web, value)
                if len(value) != many - 1:
                    self.assertEqual(told, ("form",))
                    continue
                self.assertEqual(told is None, value in foldings, (web, value))
                if told is not None:
                    self.assertEqual(told, ("ear", first_wrong(web, value)))

    def test_wrong_ears(self):
        self.assertEqual(judge_folding(CHAIN, ((1, 0), (0, 2))), ("ear", 0))
        self.assertEqual(judge_folding(CHAIN, ((0, 1), (0, 1))), ("ear", 1))
        self.assertEqual(judge_folding(CHAIN, ((0, 1), (2, 0))), ("ear", 1))
        self.assertEqual(judge_folding(CHAIN, ((0, 2), (2, 1))), ("ear", 0))
        self.assertEqual(judge_folding(RING, ((0, 1), (1, 2), (2, 3))), ("ear", 0))

    def test_wrong_forms(self):
        for value in [((0, 1),), ((0, 1), (1, 2), (2, 0)), (), [(0, 1), (1, 2)], ([0, 1], (1, 2)), ((0, 1), [1, 2]),
                      ((0, 1), (2, 2)), ((0, 0), (1, 2)), ((0, 1), (1, 3)), ((0, 1), (-1, 2)), ((0, 1), (1, -1)),
                      ((0, 1), (1,)), ((0, 1), (1, 2, 0)), ((0, True), (1, 2)), ((False, 1), (1, 2)), ((0, 1), None),
                      ((0, 1), "12"), ((0, 1), (1, "2")), ((0, 1), (None, 2)), ((0, 1), ((1,), 2)), "ab", None, 0]:
            self.assertEqual(judge_folding(CHAIN, value), ("form",), value)

    def test_form_comes_first(self):
        self.assertEqual(judge_folding(CHAIN, ((1, 0), (0, True))), ("form",))

    def test_any_value(self):
        for value in any_values():
            self.assertEqual(judge_folding(CHAIN, value), None if value == ((0, 1), (1, 2)) else ("form",), value)
            right = isinstance(value, tuple) and value == ()
            self.assertEqual(judge_folding((("a",),), value), None if right else ("form",), value)
            one_pair = isinstance(value, tuple) and value == ((0, 1),)
            self.assertEqual(judge_folding((("a",), ("a",)), value), None if one_pair else ("form",), value)


def first_wrong(web, pairs):
    lot = list(range(len(web)))
    for k, (x, y) in enumerate(pairs):
        if not webways.is_ear(web, lot, x, y):
            return k
        lot.remove(x)
    return None


class Root(unittest.TestCase):
    def test_by_hand(self):
        self.assertEqual(root(CHAIN, ((0, 1), (1, 2))), 2)
        self.assertEqual(root(CHAIN, ((2, 1), (1, 0))), 0)
        self.assertEqual(root(CHAIN, ((0, 1), (2, 1))), 1)
        self.assertEqual(root(((),), ()), 0)

    def test_drawn(self):
        rng = drawn(65)
        for _ in range(60):
            web = drawn_web(rng, most_headings=4)
            for pairs in webways.all_foldings(web)[:50]:
                self.assertEqual([root(web, pairs)], sorted(set(range(len(web))) - {x for x, _ in pairs}))


if __name__ == "__main__":
    unittest.main()
