"""[9.2]: all cores, and what takes them away."""

import itertools
import unittest

from agreetwo.cores import core
from agreetwo.ears import folding
from agreetwo.mends import breaking, cores, critical, healing
from agreetwo.webchanges import with_heading, without_column, without_heading
from agreetwo.webs import columns_of
from tests.support import (CHAIN, RING, SHELL, cored_web, drawn, drawn_heading, drawn_web, folding_web, ring_web,
                           shell_web)
from tests.webways import all_cores, first_folding

BOTH = (("a", "b"), ("b", "c"), ("a", "c"), ("c", "d"), ("d", "e"), ("c", "e"))


def drawn_any(rng, n):
    """A drawn web with one column at least."""
    while True:
        web = cored_web(rng, "abcdef"[:4 + n % 3]) if n % 3 else drawn_web(rng)
        if columns_of(web):
            return web


class Cores(unittest.TestCase):
    def test_by_hand(self):
        self.assertEqual(cores(BOTH), [("shell", ("a", "b", "c")), ("shell", ("c", "d", "e"))])
        self.assertEqual(cores(CHAIN), [])
        self.assertEqual(cores(RING), [("ring", ("a", "b", "c", "d"))])
        self.assertEqual(cores((("a", "b", "c"),)), [])

    def test_fewer_columns_ahead_then_by_the_columns_as_a_heading(self):
        web = (("a", "c"), ("b", "c"), ("b", "d"), ("a", "d"), ("e", "f"), ("f", "g"), ("e", "g"))
        self.assertEqual(cores(web), [("shell", ("e", "f", "g")), ("ring", ("a", "c", "b", "d"))])
        # The circle of the first one begins with a, d: but its columns come first.
        web = (("a", "d"), ("b", "d"), ("b", "c"), ("a", "c"), ("c", "e"), ("d", "e"))
        self.assertEqual(cores(web), all_cores(web))
        self.assertGreater(len(cores(web)), 1)

    def test_great_cores(self):
        for columns in ("abcdefg", "acegbdf"):
            self.assertEqual(cores(ring_web(columns)), all_cores(ring_web(columns)))
            self.assertEqual(len(cores(ring_web(columns))), 1)
        self.assertEqual(cores(shell_web("bcdefgh")), [("shell", tuple("bcdefgh"))])

    def test_drawn(self):
        rng = drawn(911)
        several = 0
        for n in range(150):
            web = drawn_any(rng, n)
            told = cores(web)
            self.assertEqual(told, all_cores(web))
            self.assertEqual(core(web), told[0] if told else None)
            self.assertIs(folding(web) is None, told != [])
            several += len(told) > 1
        self.assertGreater(several, 10)

    def test_what_makes_no_difference(self):
        rng = drawn(912)
        for n in range(60):
            web = drawn_any(rng, n)
            for column in columns_of(web):
                expected = [told for told in cores(web) if column not in told[1]]
                self.assertEqual(cores(without_column(web, column)), expected)
            inside = drawn_heading(rng, rng.choice(web))
            if len(web) < 7:
                self.assertEqual(cores(with_heading(web, inside)), cores(web))

    def test_returned_lists_are_new(self):
        cores(BOTH).clear()
        breaking(RING).clear()
        self.assertEqual((len(cores(BOTH)), len(breaking(RING))), (2, 4))


class Critical(unittest.TestCase):
    def test_by_hand(self):
        self.assertEqual(critical(BOTH), ("c",))
        self.assertEqual(critical(RING), ("a", "b", "c", "d"))
        self.assertEqual(critical(ring_web("acbd")), ("a", "b", "c", "d"))
        self.assertEqual(critical(CHAIN), ())
        self.assertEqual(critical((("a",),)), ())
        self.assertEqual(critical((("a", "b"), ("b", "c"), ("a", "c"), ("d", "e"), ("e", "f"), ("d", "f"))), ())

    def test_drawn(self):
        rng = drawn(913)
        for n in range(120):
            web = drawn_any(rng, n)
            told = all_cores(web)
            columns = columns_of(web)
            expected = tuple([column for column in columns if told and all([column in one[1] for one in told])])
            self.assertEqual(critical(web), expected)
            if told:
                folds = [column for column in columns if folding(without_column(web, column)) is not None]
                self.assertEqual(critical(web), tuple(folds))


class Breaking(unittest.TestCase):
    def test_by_hand(self):
        self.assertEqual(breaking(BOTH), [])
        self.assertEqual(breaking(RING), [0, 1, 2, 3])
        self.assertEqual(breaking(CHAIN), [])
        self.assertEqual(breaking((("a",),)), [])
        self.assertEqual(breaking(RING + (("a", "b"),)), [1, 2, 3])
        self.assertEqual(breaking(shell_web("abcd")), [])

    def test_drawn(self):
        rng = drawn(914)
        some = 0
        for n in range(120):
            web = drawn_any(rng, n)
            expected = []
            if first_folding(web) is None:
                expected = [x for x in range(len(web)) if first_folding(without_heading(web, x)) is not None]
            self.assertEqual(breaking(web), expected)
            some += expected != []
        self.assertGreater(some, 15)


class Healing(unittest.TestCase):
    def test_by_hand(self):
        self.assertEqual(healing(RING), ("a", "b", "c", "d"))
        self.assertEqual(healing(SHELL), ("a", "b", "c"))
        self.assertEqual(healing(CHAIN), ())
        self.assertEqual(healing(BOTH), ("a", "b", "c", "d", "e"))
        self.assertEqual(healing((("a",),)), ())

    def test_no_more_than_is_needed_and_no_less(self):
        self.assertEqual(healing((("a", "b"), ("b", "c"), ("a", "c"), ("d",))), ("a", "b", "c"))
        # The shell of a, b, c would go by these three alone, but then all four are a shell.
        self.assertEqual(healing((("a", "b", "x"), ("b", "c", "x"), ("a", "c", "x"))), ("a", "b", "c", "x"))

    def test_where_the_headings_are_eight_then(self):
        web = SHELL + ((), (), (), ())
        self.assertEqual(healing(web), ("a", "b", "c"))
        self.assertEqual(healing(ring_web("abcdefg")), tuple("abcdefg"))

    def test_drawn(self):
        rng = drawn(915)
        fewer = 0
        for n in range(80):
            web = drawn_any(rng, n)
            columns = columns_of(web)
            lots = [lot for many in range(len(columns) + 1) for lot in itertools.combinations(columns, many)]
            expected = [lot for lot in lots if first_folding(web + (lot,)) is not None][0]
            self.assertEqual(healing(web), expected)
            self.assertIs(healing(web) == (), folding(web) is not None)
            self.assertIsNotNone(first_folding(web + (columns,)))
            fewer += 0 < len(expected) < len(columns)
        self.assertGreater(fewer, 10)

    def test_webs_that_fold(self):
        rng = drawn(916)
        for _ in range(30):
            web = folding_web(rng, 7, 8, 4)
            self.assertEqual((cores(web), critical(web), breaking(web), healing(web)), ([], (), [], ()))


if __name__ == "__main__":
    unittest.main()
