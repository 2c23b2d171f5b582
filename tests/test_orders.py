"""[9.3] to [9.5]: orders of a web's columns, and the headings that they make."""

import itertools
import unittest

from agreetwo.ears import folding
from agreetwo.orders import best_order, clean_order, filled, judge_order, least_width, made_headings, width
from agreetwo.webs import columns_of, is_web
from tests.support import (CHAIN, LETTERS, RING, SHELL, any_values, cored_web, drawn, drawn_web, folding_web, ring_web,
                           shell_web)

ABCD = ("a", "b", "c", "d")
ALONE = tuple([(letter,) for letter in LETTERS[:6]]) + (("g", "h"),)


def slow_made(web, order):
    """[9.3], with sets."""
    lot, made = [set(heading) for heading in web], []
    for column in order:
        one = set().union(*[heading for heading in lot if column in heading])
        lot = [heading for heading in lot if column not in heading] + [one - {column}]
        made.append(tuple(sorted(one)))
    return made


def within(one, other):
    return set(one) <= set(other)


def drawn_any(rng, n, most_columns=5):
    """A drawn web with one column at least and so many at most."""
    while True:
        web = cored_web(rng, LETTERS[:most_columns]) if n % 3 == 0 else drawn_web(rng, 6, most_columns, 3)
        if columns_of(web):
            return web


class Made(unittest.TestCase):
    def test_by_hand(self):
        self.assertEqual(made_headings(RING, ABCD), [("a", "b", "d"), ("b", "c", "d"), ("c", "d"), ("d",)])
        self.assertEqual(made_headings(CHAIN, ABCD), [("a", "b"), ("b", "c"), ("c", "d"), ("d",)])
        self.assertEqual(made_headings(CHAIN, ("b", "c", "a", "d")),
                         [("a", "b", "c"), ("a", "c", "d"), ("a", "d"), ("d",)])
        self.assertEqual(made_headings((("a",),), ("a",)), [("a",)])
        self.assertEqual(made_headings((("a",), ("b",), ()), ("b", "a")), [("b",), ("a",)])
        self.assertEqual([width(RING, ABCD), width(CHAIN, ABCD), width((("a",),), ("a",))], [3, 2, 1])

    def test_filled(self):
        self.assertEqual(filled(RING, ABCD), (("a", "b", "d"), ("b", "c", "d")))
        self.assertEqual(filled(CHAIN, ("d", "c", "b", "a")), (("c", "d"), ("b", "c"), ("a", "b")))
        self.assertEqual(filled(SHELL, ("b", "a", "c")), (("a", "b", "c"),))
        self.assertEqual(filled((("a",),), ("a",)), (("a",),))
        self.assertEqual(filled((("a",), ("b",)), ("b", "a")), (("b",), ("a",)))

    def test_seven_headings_at_most(self):
        self.assertEqual(len(filled(ALONE, tuple(LETTERS))), 7)
        self.assertEqual(len(filled(ring_web("abcdefg"), tuple("abcdefg"))), 5)

    def test_drawn(self):
        rng = drawn(921)
        for n in range(200):
            web = drawn_any(rng, n, 8)
            columns = columns_of(web)
            order = tuple(rng.sample(columns, len(columns)))
            made = slow_made(web, order)
            self.assertEqual(made_headings(web, order), made)
            self.assertEqual(width(web, order), max(map(len, made)))
            expected = [one for k, one in enumerate(made)
                        if not any([within(one, other) and one != other for other in made]) and one not in made[:k]]
            self.assertEqual(filled(web, order), tuple(expected))
            self.assertTrue(is_web(filled(web, order)))
            self.assertIsNotNone(folding(filled(web, order)))
            for heading in web:
                self.assertTrue(any([within(heading, one) for one in expected]))

    def test_returned_lists_are_new(self):
        made_headings(RING, ABCD).clear()
        self.assertEqual(len(made_headings(RING, ABCD)), 4)


class Clean(unittest.TestCase):
    def test_judge_by_hand(self):
        self.assertEqual(judge_order(RING, ABCD), ("grows", 0))
        self.assertIsNone(judge_order(CHAIN, ABCD))
        self.assertIsNone(judge_order(CHAIN, ("d", "a", "b", "c")))
        self.assertEqual(judge_order(CHAIN, ("b", "a", "c", "d")), ("grows", 0))
        self.assertEqual(judge_order(CHAIN, ("a", "c", "b", "d")), ("grows", 1))
        self.assertIsNone(judge_order((("a",),), ("a",)))

    def test_form(self):
        wrong = [("b", "a"), ABCD[:3], ABCD + ("d",), list(ABCD), ("a", "b", "c", "c"), ("a", "b", "c", "e"),
                 ("a", "b", "c", None), ("a", "b", "c", ["d"]), ("a", "b", "c", ("d",)), ("a", "b", "c", True),
                 (("a",), ("b",), ("c",), ("d",)), "abcd", {"a": 1, "b": 2, "c": 3, "d": 4}, (ABCD,)]
        for value in wrong + any_values():
            for web in (CHAIN, RING):
                self.assertEqual(judge_order(web, value), ("form",), value)
        for value in any_values():
            self.assertEqual(judge_order((("a",),), value), None if value == ("a",) else ("form",))

    def test_first_clean_order_by_hand(self):
        self.assertEqual(clean_order(CHAIN), ABCD)
        self.assertIsNone(clean_order(SHELL))
        self.assertIsNone(clean_order(RING))
        self.assertEqual(clean_order((("b", "c"), ("a", "b"), ("b", "d"))), ("a", "c", "b", "d"))
        self.assertEqual(clean_order(ALONE), tuple(LETTERS))

    def test_drawn(self):
        rng = drawn(922)
        told = {True: 0, False: 0}
        for n in range(120):
            web = drawn_any(rng, n)
            clean = []
            for order in itertools.permutations(columns_of(web)):
                grows = [k for k, one in enumerate(slow_made(web, order))
                         if not any([within(one, heading) for heading in web])]
                self.assertEqual(judge_order(web, order), ("grows", grows[0]) if grows else None)
                clean.extend([] if grows else [order])
            self.assertEqual(clean_order(web), clean[0] if clean else None)
            self.assertIs(clean != [], folding(web) is not None)
            told[clean != []] += 1
        self.assertGreater(min(told.values()), 30)

    def test_webs_of_eight_columns(self):
        rng = drawn(923)
        for _ in range(60):
            web = folding_web(rng, 7, 8, 4)
            if columns_of(web):
                self.assertIsNone(judge_order(web, clean_order(web)))
        for _ in range(60):
            self.assertIsNone(clean_order(cored_web(rng)))


class Width(unittest.TestCase):
    def test_by_hand(self):
        self.assertEqual([least_width(SHELL), least_width(RING), least_width(CHAIN), least_width((("a",),))],
                         [3, 3, 2, 1])
        self.assertEqual([best_order(RING), best_order(CHAIN), best_order((("a",),))], [ABCD, ABCD, ("a",)])
        self.assertEqual(least_width(shell_web("abcdefg")), 7)
        self.assertEqual(best_order((("b", "c"), ("a", "b"), ("b", "d"))), ("a", "c", "b", "d"))

    def test_drawn(self):
        rng = drawn(924)
        unlike = 0
        for n in range(90):
            web = drawn_any(rng, n, 6 if n % 6 == 0 else 5)
            widths = [(max(map(len, slow_made(web, order))), order)
                      for order in itertools.permutations(columns_of(web))]
            self.assertEqual(least_width(web), min(widths)[0])
            self.assertEqual(best_order(web), min(widths)[1])
            if folding(web) is not None:
                self.assertEqual(least_width(web), max(map(len, web)))
            unlike += best_order(web) != columns_of(web)
        self.assertGreater(unlike, 10)

    def test_eight_columns(self):
        rng = drawn(925)
        for _ in range(40):
            web = cored_web(rng)
            self.assertEqual(width(web, best_order(web)), least_width(web))
            self.assertEqual(best_order(web), best_order(filled(web, best_order(web))))
            self.assertGreaterEqual(least_width(web), max(map(len, web)))


if __name__ == "__main__":
    unittest.main()
