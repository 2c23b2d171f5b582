"""[3.4] and [3.5]: lots, core rows and broken families."""

import itertools
import unittest

from agreetwo.broken import broken, core_rows, lots_of
from agreetwo.cores import core, core_headings
from agreetwo.ears import folding
from agreetwo.errors import Folds
from agreetwo.families import check_family, disagreement
from agreetwo.headings import part
from agreetwo.tables import Table, summed
from agreetwo.webs import columns_of
from agreetwo.wholes import lost
from tests.support import CHAIN, RING, SHELL, cored_web, drawn, folding_web, raised, ring_web, shell_web
from tests.tableways import join_rows

CROSSED = (("a", "c"), ("b", "c"), ("b", "d"), ("a", "d"))
WIDE_SHELL = shell_web("abcd")
SIX = ring_web("abcdef")


class Lots(unittest.TestCase):
    def test_by_hand(self):
        self.assertEqual(lots_of(RING), [("a",), ("b",), ("c", "d")])
        self.assertEqual(lots_of(SHELL), [("a",), ("b",), ("c",)])
        self.assertEqual(lots_of(WIDE_SHELL), [("a",), ("b",), ("c",), ("d",)])
        self.assertEqual(lots_of(SIX), [("a",), ("b",), ("c", "d", "e", "f")])

    def test_the_order_of_the_circle_and_lots_as_headings(self):
        self.assertEqual(core(CROSSED), ("ring", ("a", "c", "b", "d")))
        self.assertEqual(lots_of(CROSSED), [("a",), ("c",), ("b", "d")])
        twisted = ring_web("adbfce")
        self.assertEqual(core(twisted), ("ring", ("a", "d", "b", "f", "c", "e")))
        self.assertEqual(lots_of(twisted), [("a",), ("d",), ("b", "c", "e", "f")])

    def test_drawn(self):
        rng = drawn(321)
        for _ in range(60):
            web = cored_web(rng)
            word, columns = core(web)
            expected = [(column,) for column in columns]
            if word == "ring":
                expected = expected[:2] + [tuple(sorted(columns[2:]))]
            self.assertEqual(lots_of(web), expected)
            self.assertIsInstance(lots_of(web), list)


class CoreRows(unittest.TestCase):
    def test_by_hand(self):
        self.assertEqual(core_rows(RING, "unit"), [(0, 0, 1, 1), (0, 1, 0, 0), (1, 0, 0, 0)])
        self.assertEqual(core_rows(RING, "even"), [(0, 0, 0, 0), (0, 1, 1, 1), (1, 0, 1, 1), (1, 1, 0, 0)])
        self.assertEqual(core_rows(RING, "odd"), [(0, 0, 1, 1), (0, 1, 0, 0), (1, 0, 0, 0), (1, 1, 1, 1)])
        self.assertEqual(core_rows(SHELL, "all"), list(itertools.product((0, 1), repeat=3)))

    def test_columns_beside_the_core_have_0(self):
        web = SHELL + (("b", "d"), ("aa",))
        self.assertEqual(columns_of(web), ("a", "aa", "b", "c", "d"))
        self.assertEqual(core_rows(web, "unit"), [(0, 0, 0, 1, 0), (0, 0, 1, 0, 0), (1, 0, 0, 0, 0)])

    def test_drawn(self):
        rng = drawn(322)
        for _ in range(40):
            web = cored_web(rng)
            columns, lots = columns_of(web), lots_of(web)
            told = {"unit": [], "even": [], "odd": [], "all": []}
            for row in itertools.product((0, 1), repeat=len(columns)):
                values = dict(zip(columns, row))
                if any(values[column] for column in columns if not any(column in lot for lot in lots)):
                    continue
                if any(len({values[column] for column in lot}) > 1 for lot in lots):
                    continue
                ones = sum(values[lot[0]] for lot in lots)
                told["all"].append(row)
                told["odd" if ones % 2 else "even"].append(row)
                if ones == 1:
                    told["unit"].append(row)
            for word, rows in told.items():
                self.assertEqual(core_rows(web, word), rows)
                self.assertIsInstance(core_rows(web, word), list)

    def test_returned_lists_are_new(self):
        core_rows(RING, "all").clear()
        lots_of(RING).clear()
        self.assertEqual((len(core_rows(RING, "all")), len(lots_of(RING))), (8, 3))


class Broken(unittest.TestCase):
    def test_by_hand(self):
        self.assertEqual([table.counts() for table in broken(RING)],
                         [[((0, 1), 1), ((1, 0), 1)], [((0, 1), 1), ((1, 0), 1)], [((0, 0), 1), ((1, 1), 1)],
                          [((0, 1), 1), ((1, 0), 1)]])
        self.assertEqual([table.rows() for table in broken(SHELL)], [[(0, 1), (1, 0)]] * 3)
        self.assertEqual([table.rows() for table in broken(WIDE_SHELL)], [[(0, 0, 1), (0, 1, 0), (1, 0, 0)]] * 4)
        self.assertEqual([table.rows() for table in broken(SIX)],
                         [[(0, 1), (1, 0)]] * 2 + [[(0, 0), (1, 1)]] * 3 + [[(0, 1), (1, 0)]])

    def test_headings_that_have_less_and_more_than_the_core(self):
        web = WIDE_SHELL + (("a", "d"), ("z",), ("a", "z"))
        self.assertEqual([table.counts() for table in broken(web)[4:]],
                         [[((0, 0), 1), ((0, 1), 1), ((1, 0), 1)], [((0,), 3)], [((0, 0), 2), ((1, 0), 1)]])
        self.assertEqual([table.heading() for table in broken(web)], list(web))

    def test_an_empty_heading(self):
        self.assertEqual(broken(SHELL + ((),))[3].counts(), [((), 2)])

    def test_drawn(self):
        rng = drawn(323)
        for _ in range(60):
            web = cored_web(rng)
            family = broken(web)
            self.assertIsInstance(family, list)
            self.assertIsNone(check_family(web, family))
            self.assertIsNone(disagreement(web, family))
            self.assertEqual(lost(web, family), (0, family[0].rows()[0]))
            self.assertEqual([table.total() for table in family], [len(lots_of(web)) - 1] * len(web))
            if len(web) < 6:
                self.assertEqual(join_rows(web, family), [])

    def test_each_table_is_a_sum_of_a_core_heading_s_table(self):
        rng = drawn(324)
        for _ in range(60):
            web = cored_web(rng)
            lots, columns = lots_of(web), sorted(core(web)[1])
            for heading, table in zip(web, broken(web)):
                inside = tuple([column for column in heading if column in columns])
                holder = [other for other in core_headings(core(web)) if set(inside) <= set(other)][0]
                among = [lot for lot in lots if set(lot) & set(holder)]
                rows = [tuple([int(column in lot) for column in holder]) for lot in among]
                if len(among) == 1:
                    rows.append((0,) * len(holder))
                else:
                    self.assertEqual(len(among), len(lots) - 1)
                told = summed(Table(holder, [(row, 1) for row in rows]), inside)
                self.assertEqual(summed(table, inside), told)
                for row in table:
                    self.assertFalse(any(part(heading, row, [c for c in heading if c not in columns])))


class WebsThatFold(unittest.TestCase):
    def test_folds(self):
        calls = [lots_of, broken] + [lambda web, word=word: core_rows(web, word)
                                     for word in ("unit", "even", "odd", "all")]
        for call in calls:
            self.assertEqual(raised(Folds, call, CHAIN).pairs, ((0, 1), (1, 2)))
            self.assertEqual(raised(Folds, call, (("a", "b"),)).pairs, ())
            self.assertEqual(raised(Folds, call, ((), ())).pairs, ((0, 1),))

    def test_drawn(self):
        rng = drawn(325)
        for _ in range(40):
            web = folding_web(rng)
            for call in (lots_of, broken, lambda web: core_rows(web, "odd")):
                self.assertEqual(raised(Folds, call, web).pairs, folding(web))


if __name__ == "__main__":
    unittest.main()
