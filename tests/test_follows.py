"""[6.2]: blocks, and which splits follow from others."""

import itertools
import unittest

from agreetwo.follows import blocks, follows
from agreetwo.splits import has_split, lacking
from agreetwo.tables import Table
from tests.support import drawn
from tests.tableways import all_headings, all_splits, split_holes

AB, ABC, ABCD = ("a", "b"), ("a", "b", "c"), ("a", "b", "c", "d")
EIGHT = tuple("abcdefgh")
TOLD = [(("a",), ("b",)), (("c",), ("d",))]


def slow_blocks(rng, heading, told, given):
    """[6.2], whichever split is taken first."""
    rest = frozenset(heading) - set(given)
    found = [rest] if rest else []
    while True:
        falls = [(block, set(s)) for block in found for g, s in told
                 if not block & set(g) and block & set(s) and block - set(s)]
        if not falls:
            return sorted([tuple(sorted(block)) for block in found])
        block, side = rng.choice(falls)
        found.remove(block)
        found.extend([block & side, block - side])


class Blocks(unittest.TestCase):
    def test_by_hand(self):
        self.assertEqual([blocks(ABCD, TOLD, ("a",)), blocks(ABCD, TOLD, ("c",)), blocks(ABCD, TOLD, ("a", "c"))],
                         [[("b",), ("c", "d")], [("a", "b"), ("d",)], [("b",), ("d",)]])
        self.assertEqual(blocks(ABCD, [(("a",), ("b",)), (("b",), ("c",))], ("a",)), [("b",), ("c",), ("d",)])
        self.assertEqual(blocks(ABCD, tuple(TOLD), ("a",)), [("b",), ("c", "d")])

    def test_no_told_splits_and_nothing_beyond(self):
        self.assertEqual(blocks(ABC, [], ABC), [])
        self.assertEqual(blocks(ABC, [((), ("a",))], ABC), [])
        self.assertEqual(blocks((), [], ()), [])
        self.assertEqual(blocks(ABC, [], ()), [ABC])
        self.assertEqual(blocks(ABC, (), ("b",)), [("a", "c")])
        self.assertEqual(blocks(AB, [((), ("a",))], ()), [("a",), ("b",)])

    def test_a_block_that_has_a_column_of_what_is_given_stays(self):
        self.assertEqual(blocks(ABCD, TOLD, ()), [ABCD])
        self.assertEqual(blocks(ABCD, [((), ("a", "c")), (("a",), ("b",))], ()), [("a", "c"), ("b",), ("d",)])

    def test_drawn(self):
        rng = drawn(401)
        for _ in range(300):
            heading = rng.choice([AB, ABC, ABCD, tuple("abcde"), EIGHT])
            splits = all_splits(heading)
            told = [rng.choice(splits) for _ in range(rng.randint(0, 8))]
            given = rng.choice(all_headings(heading))
            self.assertEqual(blocks(heading, told, given), slow_blocks(rng, heading, told, given))
            self.assertEqual(sorted([column for block in blocks(heading, told, given) for column in block]),
                             sorted(set(heading) - set(given)))

    def test_returned_lists_are_new_and_nothing_changes(self):
        told = list(TOLD)
        blocks(ABCD, told, ("a",)).clear()
        self.assertEqual(blocks(ABCD, told, ("a",)), [("b",), ("c", "d")])
        follows(ABCD, told, (("a",), ("c",)))
        self.assertEqual(told, TOLD)


class Follows(unittest.TestCase):
    def test_by_hand(self):
        self.assertIsNone(follows(ABCD, TOLD, (("a", "c"), ("b",))))
        self.assertEqual(follows(ABCD, TOLD, (("a",), ("c",))).counts(),
                         [((0, 0, 0, 0), 1), ((0, 0, 1, 1), 1), ((0, 1, 0, 0), 1), ((0, 1, 1, 1), 1)])
        self.assertIsNone(follows(AB, [((), ("a",))], ((), ("b",))))
        self.assertEqual(follows(AB, [], ((), ("b",))).rows(), [(0, 0), (1, 1)])
        self.assertIsNone(follows(ABCD, TOLD, (("a",), ("b",))))
        self.assertIsNone(follows(ABCD, TOLD, (("a",), ("c", "d"))))

    def test_what_the_table_is(self):
        rng = drawn(402)
        told_ways = {True: 0, False: 0}
        for _ in range(300):
            heading = rng.choice([AB, ABC, ABCD, tuple("abcde"), EIGHT])
            splits = all_splits(heading)
            told = [rng.choice(splits) for _ in range(rng.randint(0, 4))]
            split = rng.choice(splits)
            found = blocks(heading, told, split[0])
            table = follows(heading, told, split)
            whole = all([set(block) <= set(split[1]) or not set(block) & set(split[1]) for block in found])
            self.assertIs(table is None, whole)
            told_ways[whole] += 1
            if table is None:
                continue
            rows = []
            for values in itertools.product((0, 1), repeat=len(found)):
                row = {column: worth for block, worth in zip(found, values) for column in block}
                rows.append(tuple([row.get(column, 0) for column in heading]))
            self.assertEqual(table, Table(heading, [(row, 1) for row in rows]))
            self.assertFalse([one for one in told if not has_split(table, one)])
            self.assertIsNotNone(lacking(table, split))
        self.assertGreater(min(told_ways.values()), 50)

    def test_none_just_if_no_table_of_few_rows_shows_it(self):
        rng = drawn(403)
        for heading, most in ((AB, 4), (ABC, 8), (ABCD, 3)):
            splits = all_splits(heading)
            rows = list(itertools.product((0, 1), repeat=len(heading)))
            tables = [Table(heading, [(row, 1) for row in some]) for many in range(most + 1)
                      for some in itertools.combinations(rows, many)]
            had = [{split for split in splits if not split_holes(table, split)} for table in tables]
            for _ in range(60):
                told = [rng.choice(splits) for _ in range(rng.randint(0, 4))]
                for split in splits:
                    shown = any([set(told) <= has and split not in has for has in had])
                    self.assertIs(follows(heading, told, split) is None, not shown)


if __name__ == "__main__":
    unittest.main()
