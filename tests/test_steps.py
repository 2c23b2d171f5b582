"""[4.1]: steps, plans and clean tables."""

import itertools
import unittest

from agreetwo.broken import broken
from agreetwo.cores import core
from agreetwo.ears import folding
from agreetwo.errors import Cored, TooMany
from agreetwo.joints import join
from agreetwo.steps import done, full_plan, is_clean, leaving
from agreetwo.tables import Table
from tests.support import (AB, BC, CHAIN, RING, SHELL, cored_web, drawn, drawn_family, drawn_web, folding_web, ones,
                           raised)
from tests.tableways import clean_tables, join_rows, part_of, walk

PATH = (AB, BC)
PAIR = (Table(AB, [((0, 0), 2), ((1, 5), 1)]), Table(BC, [((0, 7), 1)]))
APART = (("a",), ("b",))


def drawn_plan(rng, web, most=12):
    """A plan of at most so many steps; () for a web of one heading."""
    if len(web) == 1:
        return ()
    return tuple([tuple(rng.sample(range(len(web)), 2)) for _ in range(rng.randint(0, most))])


class Steps(unittest.TestCase):
    def test_by_hand(self):
        behind = done(PATH, PAIR, ((0, 1),))
        self.assertEqual([table.counts() for table in behind], [[((0, 0), 2)], [((0, 7), 1)]])
        self.assertEqual(done(PATH, PAIR, ((1, 0),)), list(PAIR))
        self.assertEqual(leaving(PATH, PAIR, ((1, 0), (0, 1))), [0, 1])
        self.assertEqual(leaving(PATH, PAIR, ((0, 1), (0, 1), (1, 0))), [1, 0, 0])

    def test_tables_as_they_then_are(self):
        family = [ones(AB, (0, 0), (0, 1)), ones(BC, (0, 0), (1, 1)), ones(("c", "d"), (1, 5))]
        self.assertEqual([table.rows() for table in done(CHAIN, family, ((0, 1), (1, 2)))],
                         [[(0, 0), (0, 1)], [(1, 1)], [(1, 5)]])
        self.assertEqual([table.rows() for table in done(CHAIN, family, ((1, 2), (0, 1)))],
                         [[(0, 1)], [(1, 1)], [(1, 5)]])
        self.assertEqual(leaving(CHAIN, family, ((0, 1), (1, 2), (0, 1))), [0, 1, 1])

    def test_headings_that_share_no_column(self):
        left, right = Table(("a",), [((0,), 2), ((1,), 3)]), ones(("b",), (9,))
        self.assertEqual(done(APART, [left, right], ((0, 1), (1, 0))), [left, right])
        self.assertEqual(done(APART, [left, Table(("b",), [])], ((0, 1),)), [Table(("a",), []), Table(("b",), [])])
        self.assertEqual(leaving(APART, [left, Table(("b",), [])], ((1, 0), (0, 1), (1, 0))), [0, 2, 0])

    def test_headings_that_are_alike_or_empty(self):
        one, other = Table(AB, [((0, 0), 2), ((1, 1), 3)]), ones(AB, (1, 1), (2, 2))
        self.assertEqual(done((AB, AB), [one, other], ((0, 1),)), [Table(AB, [((1, 1), 3)]), other])
        self.assertEqual(done((AB, ()), [one, Table((), [])], ((0, 1),)), [Table(AB, []), Table((), [])])
        self.assertEqual(leaving(((), AB), [Table((), [((), 5)]), Table(AB, [])], ((0, 1),)), [1])

    def test_no_step(self):
        self.assertEqual(done(PATH, PAIR, ()), list(PAIR))
        self.assertEqual(leaving(PATH, PAIR, ()), [])

    def test_drawn(self):
        rng = drawn(331)
        taken = 0
        for n in range(150):
            web = cored_web(rng) if n % 2 else drawn_web(rng)
            family = drawn_family(rng, web, rows=8)
            plan = drawn_plan(rng, web)
            tables, numbers = walk(web, family, plan)
            self.assertEqual(done(web, family, plan), tables)
            self.assertEqual(done(web, tuple(family), plan), tables)
            self.assertEqual(leaving(web, family, plan), numbers)
            taken += sum(numbers)
        self.assertGreater(taken, 100)

    def test_steps_leave_the_join(self):
        rng = drawn(332)
        for _ in range(60):
            web = drawn_web(rng, most_headings=4, most_columns=5)
            family = drawn_family(rng, web, rows=5)
            self.assertEqual(join_rows(web, done(web, family, drawn_plan(rng, web))), join_rows(web, family))

    def test_returned_lists_are_new_and_nothing_changes(self):
        family, plan = list(PAIR), ((0, 1), (1, 0))
        told = done(PATH, family, plan)
        self.assertIsInstance(told, list)
        self.assertIsNot(done(PATH, family, ()), family)
        told.clear()
        leaving(PATH, family, plan).clear()
        is_clean(PATH, family, 0)
        self.assertEqual(family, list(PAIR))
        self.assertEqual(PAIR[0].counts(), [((0, 0), 2), ((1, 5), 1)])


class Clean(unittest.TestCase):
    def test_by_hand(self):
        self.assertIs(is_clean(PATH, PAIR, 0), False)
        self.assertIs(is_clean(PATH, PAIR, 1), True)
        self.assertIs(is_clean(PATH, list(PAIR), 1), True)
        parity = [ones(heading, (0, 1), (1, 0)) for heading in SHELL]
        self.assertEqual([is_clean(SHELL, parity, x) for x in range(3)], [False] * 3)

    def test_rows_of_one_table_that_go_together_and_others_that_do_not(self):
        family = [ones(SHELL[0], (0, 0), (1, 1)), ones(SHELL[1], (0, 0), (1, 1)), ones(SHELL[2], (0, 0), (0, 1), (1, 0))]
        self.assertEqual([is_clean(SHELL, family, x) for x in range(3)], [False] * 3)
        family = [ones(SHELL[0], (0, 0)), ones(SHELL[1], (0, 0)), ones(SHELL[2], (0, 0), (0, 1), (1, 0))]
        self.assertEqual([is_clean(SHELL, family, x) for x in range(3)], [True, True, False])

    def test_tables_without_rows(self):
        self.assertIs(is_clean(PATH, [Table(AB, []), PAIR[1]], 0), True)
        self.assertIs(is_clean(PATH, [Table(AB, []), PAIR[1]], 1), False)
        self.assertIs(is_clean(APART, [Table(("a",), []), ones(("b",), (1,))], 1), False)
        self.assertIs(is_clean(((),), [Table((), [])], 0), True)

    def test_drawn(self):
        rng = drawn(333)
        told = []
        for n in range(120):
            web = cored_web(rng, "abcde") if n % 2 else drawn_web(rng, most_headings=4, most_columns=5, widest=3)
            if len(web) > 5:
                continue
            family = done(web, drawn_family(rng, web, rows=6), drawn_plan(rng, web, 4))
            clean = [is_clean(web, family, x) for x in range(len(web))]
            self.assertEqual(clean, clean_tables(web, family))
            told.extend(clean)
        self.assertGreater(min(told.count(True), told.count(False)), 40)

    def test_nothing_is_too_many(self):
        web = tuple([(letter,) for letter in "abcdef"])
        family = [ones(heading, *[(k,) for k in range(6)]) for heading in web]
        self.assertIs(is_clean(web, family, 3), True)
        raised(TooMany, join, family)
        tables = [ones(heading, *[(j, k) for j in range(7) for k in range(6)]) for heading in SHELL]
        self.assertEqual([is_clean(SHELL, tables, x) for x in range(3)], [True, True, False])
        tables = [ones(heading, *[(j, k) for j in range(6) for k in range(6)]) for heading in SHELL]
        self.assertIs(is_clean(SHELL, tables, 1), True)


class FullPlan(unittest.TestCase):
    def test_by_hand(self):
        self.assertEqual(full_plan(PATH), ((1, 0), (0, 1)))
        self.assertEqual(full_plan(CHAIN), ((1, 0), (2, 1), (1, 2), (0, 1)))
        self.assertEqual(full_plan((AB,)), ())
        self.assertEqual(full_plan(((), ())), ((1, 0), (0, 1)))

    def test_behind_it_each_table_is_clean(self):
        rng = drawn(334)
        for _ in range(80):
            web = folding_web(rng, most_headings=4, most_columns=5)
            family = drawn_family(rng, web, rows=6)
            plan = full_plan(web)
            pairs = folding(web)
            self.assertEqual(plan, tuple([(y, x) for x, y in pairs]) + tuple(reversed(pairs)))
            behind = done(web, family, plan)
            self.assertTrue(all([is_clean(web, behind, x) for x in range(len(web))]))
            rows = join_rows(web, family)
            columns = tuple(sorted({column for heading in web for column in heading}))
            for heading, table in zip(web, behind):
                self.assertEqual(table.rows(), sorted({part_of(columns, row, heading) for row in rows}))

    def test_cored(self):
        for web in (RING, SHELL):
            self.assertEqual(raised(Cored, full_plan, web).core, core(web))

    def test_no_step_takes_a_row_of_a_broken_family(self):
        rng = drawn(335)
        for _ in range(40):
            web = cored_web(rng)
            family = broken(web)
            plan = tuple(itertools.permutations(range(len(web)), 2))
            self.assertEqual(leaving(web, family, plan), [0] * len(plan))
            self.assertEqual(done(web, family, plan), family)
            self.assertFalse(all([is_clean(web, family, x) for x in range(len(web))]))


if __name__ == "__main__":
    unittest.main()
