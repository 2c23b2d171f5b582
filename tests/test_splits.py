"""[6.1] and [6.4]: splits of headings, tables that have them, and the splits of a web that folds."""

import itertools
import unittest

from agreetwo.cores import core
from agreetwo.ears import folding
from agreetwo.errors import Cored
from agreetwo.headings import together
from agreetwo.joints import join
from agreetwo.splits import has_split, is_split, lacking, must_split, other_side, splits_of
from agreetwo.tables import Table, summed
from agreetwo.webs import columns_of
from tests.support import (CHAIN, RING, SHELL, any_values, cored_web, drawn, drawn_table, drawn_web, folding_web, ones,
                           raised)
from tests.tableways import all_splits, join_rows, split_holes

ABC, ABCD = ("a", "b", "c"), ("a", "b", "c", "d")
EIGHT = tuple("abcdefgh")
THREE = Table(ABC, [((0, 0, 0), 1), ((0, 1, 1), 2), ((1, 5, 7), 1)])


class IsSplit(unittest.TestCase):
    def test_by_hand(self):
        for value in [(("a",), ("b",)), ((), ("a",)), ((), ("a", "b")), ((), ("b", "c")), (("c",), ("a",))]:
            self.assertIs(is_split(ABC, value), True, value)
        self.assertIs(is_split(("a", "b"), ((), ("a",))), True)
        self.assertIs(is_split(EIGHT, (("c", "e"), ("a", "b", "d", "f", "g"))), True)

    def test_none(self):
        wrong = [(("a",), ("b", "c")), ((), ABC), (("a",), ()), ((), ()), (("a",), ("a",)), (("a",), ("a", "b")),
                 (("a",), ("d",)), (("d",), ("a",)), (["a"], ("b",)), (("a",), ["b"]), [("a",), ("b",)], ("a", "b"),
                 (("a",), ("b",), ("c",)), (("a",),), (("b", "a"), ("c",)), ((), ("b", "a")), ((), ("a", "a")),
                 (None, ("a",)), ((), "a"), ((), ("A",)), ((), (True,)), ((), (1,)), (("a",), None), ((), {"a": 1}),
                 (("a", "b"), ("c",)), ((), ("a", 1))]
        for value in wrong + any_values():
            self.assertIs(is_split(ABC, value), False, value)
        for value in any_values() + [((), ()), ((), ("a",)), (("a",), ())]:
            self.assertIs(is_split((), value), False)
            self.assertIs(is_split(("a",), value), False)
        for value in [(("a",), ("b",)), (("a",), ()), ((), ("a", "b")), ((), ("c",)), (("c",), ("a",))]:
            self.assertIs(is_split(("a", "b"), value), False)

    def test_all_values_made_of_headings(self):
        told = all_splits(ABC)
        headings = [(), ("a",), ("b",), ("c",), ("d",), ("a", "b"), ("a", "c"), ("b", "c"), ABC, ("b", "d")]
        for given in headings:
            for side in headings:
                self.assertIs(is_split(ABC, (given, side)), (given, side) in told)

    def test_other_side(self):
        self.assertEqual(other_side(ABC, (("a",), ("b",))), (("a",), ("c",)))
        self.assertEqual(other_side(ABCD, ((), ("b", "d"))), ((), ("a", "c")))
        for heading in (("a", "b"), ABC, ABCD):
            for split in all_splits(heading):
                other = other_side(heading, split)
                self.assertIs(is_split(heading, other), True)
                self.assertEqual(other[0], split[0])
                self.assertEqual(together(together(split[0], split[1]), other[1]), heading)
                self.assertEqual(other_side(heading, other), split)


class Lacking(unittest.TestCase):
    def test_by_hand(self):
        self.assertEqual(lacking(THREE, (("a",), ("b",))), (0, 0, 1))
        self.assertIs(has_split(THREE, (("a",), ("b",))), False)
        for split in [(("b",), ("a",)), (("c",), ("b",))]:
            self.assertIsNone(lacking(THREE, split))
            self.assertIs(has_split(THREE, split), True)

    def test_nothing_given(self):
        self.assertEqual(lacking(ones(("a", "b"), (0, 0), (1, 1)), ((), ("a",))), (0, 1))
        self.assertEqual(lacking(ones(("a", "b"), (0, 1), (1, 0)), ((), ("b",))), (0, 0))
        self.assertIsNone(lacking(ones(("a", "b"), (0, 0), (0, 1), (1, 0), (1, 1)), ((), ("a",))))

    def test_tables_without_rows_and_of_one_row(self):
        for split in all_splits(ABC):
            self.assertIsNone(lacking(Table(ABC, []), split))
            self.assertIsNone(lacking(ones(ABC, (3, 4, 5)), split))

    def test_counts_do_not_matter(self):
        self.assertIsNone(lacking(Table(("a", "b"), [((0, 0), 9), ((0, 1), 1), ((1, 0), 2), ((1, 1), 70)]), ((), ("a",))))

    def test_drawn(self):
        rng = drawn(391)
        told = {True: 0, False: 0}
        for _ in range(250):
            heading = rng.choice([("a", "b"), ABC, ABCD])
            table = drawn_table(rng, heading, rows=10, values=rng.randint(1, 2))
            split = rng.choice(all_splits(heading))
            holes = split_holes(table, split)
            self.assertEqual(lacking(table, split), holes[0] if holes else None)
            self.assertIs(has_split(table, split), not holes)
            self.assertIs(has_split(table, other_side(heading, split)), not holes)
            web = (together(split[0], split[1]), together(split[0], other_side(heading, split)[1]))
            self.assertIs(not holes, join_rows(web, [summed(table, one) for one in web]) == table.rows())
            told[not holes] += 1
        self.assertGreater(min(told.values()), 50)

    def test_eight_columns_and_128_rows(self):
        table = ones(EIGHT, *[(k, 0, 1, k % 3, 5, 6, 7, k) for k in range(100)],
                     *[(0, k, 9, 9, 9, 9, 9, 9) for k in range(28)])
        self.assertEqual(len(table), 128)
        self.assertEqual(lacking(table, ((), ("a", "b", "c", "d"))), (0, 0, 1, 0, 5, 6, 7, 1))
        self.assertIsNone(lacking(table, (("a", "b", "c"), ("d", "e"))))


class MustSplit(unittest.TestCase):
    def test_by_hand(self):
        self.assertIs(must_split(CHAIN, (("b",), ("a",))), True)
        self.assertIs(must_split(CHAIN, (("b",), ("c",))), False)
        self.assertIs(must_split(CHAIN, (("b",), ("c", "d"))), True)
        self.assertIs(must_split(CHAIN, (("b", "c"), ("a",))), True)
        self.assertIs(must_split(CHAIN, ((), ("a",))), False)
        self.assertIs(must_split((("a",), ("b",)), ((), ("a",))), True)
        self.assertIs(must_split(RING, (("a", "c"), ("b",))), True)
        self.assertIs(must_split(SHELL, (("a",), ("b",))), False)

    def test_every_join_has_it_just_if_it_is_a_must(self):
        rng = drawn(392)
        told = {True: 0, False: 0}
        for n in range(60):
            web = cored_web(rng, "abcd") if n % 3 == 0 else drawn_web(rng, 4, 4, 3)
            columns = columns_of(web)
            for split in all_splits(columns):
                must = must_split(web, split)
                told[must] += 1
                for _ in range(2):
                    table = join([drawn_table(rng, heading, rows=8, values=1) for heading in web])
                    if must:
                        self.assertIsNone(lacking(table, split))
                if not must:
                    rest = other_side(columns, split)[1]
                    both = [(a, b) for heading in web for a in split[1] for b in rest if a in heading and b in heading]
                    self.assertIsNotNone(lacking(alike_join(web, both[0]), split))
        self.assertGreater(min(told.values()), 30)


def alike_join(web, both):
    """A join of tables over the web: two columns that stand in one heading have 0 or 1, and are alike; 0 elsewhere."""
    tables = []
    for heading in web:
        rows = [row for row in itertools.product((0, 1), repeat=len(heading))
                if not [1 for column, worth in zip(heading, row) if worth and column not in both]]
        if both[0] in heading and both[1] in heading:
            rows = [row for row in rows if sum(row) != 1]
        tables.append(ones(heading, *rows))
    return join(tables)


class SplitsOf(unittest.TestCase):
    def test_by_hand(self):
        self.assertEqual(splits_of(CHAIN), [(("b",), ("a",)), (("c",), ("a", "b"))])
        self.assertEqual(splits_of((("a", "b"),)), [])
        self.assertEqual(splits_of(((), ())), [])
        self.assertEqual(splits_of((("a",), ("b",), ("c",))), [((), ("a",)), ((), ("a", "b"))])

    def test_only_what_is_a_split_and_each_once(self):
        self.assertEqual(splits_of((("a", "b"), ("a",), ("b", "c"))), [(("b",), ("a",))])
        self.assertEqual(splits_of((("a", "b"), ("a", "b"), ("b", "c"))), [(("b",), ("a",))])
        self.assertEqual(splits_of((("a", "b"), ("a", "b"))), [])
        self.assertEqual(splits_of((("a",), ("a", "b"), ("a", "b", "c"))), [])

    def test_drawn(self):
        rng = drawn(393)
        many = 0
        for _ in range(120):
            web = folding_web(rng, most_headings=6, most_columns=7)
            columns, heaps, expected = columns_of(web), [set(heading) for heading in web], []
            for x, y in folding(web):
                seam = tuple([column for column in web[x] if column in web[y]])
                split = (seam, tuple(sorted(heaps[x] - set(seam))))
                if split[1] and len(split[0]) + len(split[1]) < len(columns) and split not in expected:
                    expected.append(split)
                heaps[y] |= heaps[x]
            told = splits_of(web)
            self.assertEqual(told, expected)
            self.assertIsInstance(told, list)
            for split in told:
                self.assertIs(is_split(columns, split), True)
                self.assertIs(must_split(web, split), True)
            many += len(told)
        self.assertGreater(many, 60)

    def test_a_table_that_has_them_all_joins_back(self):
        rng = drawn(394)
        told = {True: 0, False: 0}
        for _ in range(300):
            web = folding_web(rng, most_headings=3, most_columns=4, least=2)
            table = drawn_table(rng, columns_of(web), rows=10, values=1)
            rows = join_rows(web, [summed(table, heading) for heading in web])
            back = rows == table.rows()
            self.assertIs(all([has_split(table, split) for split in splits_of(web)]), back)
            told[back] += 1
        self.assertGreater(min(told.values()), 10)

    def test_cored(self):
        for web in (RING, SHELL):
            self.assertEqual(raised(Cored, splits_of, web).core, core(web))
        rng = drawn(395)
        for _ in range(20):
            web = cored_web(rng)
            self.assertEqual(raised(Cored, splits_of, web).core, core(web))

    def test_returned_lists_are_new(self):
        splits_of(CHAIN).clear()
        self.assertEqual(len(splits_of(CHAIN)), 2)


if __name__ == "__main__":
    unittest.main()
