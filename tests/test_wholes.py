"""[3.2], [3.3] and [3.6]: wholes, rows that are lost, and sets of rows."""

import unittest

from agreetwo.broken import broken
from agreetwo.cores import core
from agreetwo.ears import folding
from agreetwo.errors import Cored, Disagree, TooMany
from agreetwo.families import disagreement, is_whole, sums
from agreetwo.joints import join, joint
from agreetwo.tables import Table, meet, summed
from agreetwo.trees import seam
from agreetwo.webs import columns_of
from agreetwo.wholes import bound, lost, whole, whole_by, whole_set
from tests.support import (AB, BC, CHAIN, LEFT, RIGHT, RING, SHELL, agreeing_family, cored_web, drawn, drawn_family,
                           drawn_web, folding_web, ones, raised)
from tests.tableways import first_lost, join_rows
from tests.webways import all_foldings

PAIR = (AB, BC)
PARITY = [Table(heading, [((0, 1), 1), ((1, 0), 1)]) for heading in SHELL]


class Whole(unittest.TestCase):
    def test_by_hand(self):
        self.assertEqual(whole(PAIR, [LEFT, RIGHT]).counts(), [((0, 1, 0), 4), ((0, 1, 5), 1), ((2, 2, 0), 1)])
        self.assertEqual(whole(PAIR, (LEFT, RIGHT)), joint(LEFT, RIGHT))

    def test_made_from_the_root_along_the_folding_from_its_end(self):
        family = [ones(AB, (0, 1), (1, 0)), ones(BC, (0, 0), (1, 0)), ones(("c", "d"), (0, 0), (0, 1))]
        self.assertEqual(folding(CHAIN), ((0, 1), (1, 2)))
        self.assertEqual(whole(CHAIN, family).rows(), [(0, 1, 0, 1), (1, 0, 0, 0)])
        self.assertEqual(whole_by(CHAIN, family, ((0, 1), (1, 2))).rows(), [(0, 1, 0, 1), (1, 0, 0, 0)])
        self.assertEqual(whole_by(CHAIN, family, ((2, 1), (1, 0))).rows(), [(0, 1, 0, 0), (1, 0, 0, 1)])

    def test_the_pairs_tell_which_whole(self):
        web = (("a", "c"), ("b", "c"), ("b", "d"), ("d", "e"))
        rng, unlike = drawn(301), 0
        for _ in range(60):
            family = agreeing_family(rng, web, rows=8, values=2)
            for pairs in all_foldings(web):
                left = [x for x in range(4) if x not in [pair[0] for pair in pairs]]
                made = family[left[0]]
                for x, _ in reversed(pairs):
                    made = joint(made, family[x])
                self.assertEqual(whole_by(web, family, pairs), made)
                unlike += made != whole(web, family)
        self.assertGreater(unlike, 20)

    def test_along_every_folding_of_drawn_webs(self):
        rng = drawn(302)
        for _ in range(60):
            web = folding_web(rng, most_headings=4)
            family = agreeing_family(rng, web, rows=8, values=2)
            self.assertTrue(is_whole(web, family, whole(web, family)))
            self.assertLessEqual(len(whole(web, family)), bound(web, family))
            self.assertEqual(whole(web, family), whole_by(web, family, folding(web)))
            for pairs in all_foldings(web):
                self.assertTrue(is_whole(web, family, whole_by(web, family, pairs)))

    def test_edges(self):
        self.assertEqual(whole((AB,), [LEFT]), LEFT)
        self.assertEqual(whole_by((AB,), [LEFT], ()), LEFT)
        self.assertEqual(whole((AB, AB), [LEFT, LEFT]), LEFT)
        self.assertEqual(whole((AB, ("b",)), [LEFT, summed(LEFT, ("b",))]), LEFT)
        self.assertEqual(whole(((), AB, ()), [Table((), [((), 6)]), LEFT, Table((), [((), 6)])]), LEFT)
        self.assertEqual(whole(((),), [Table((), [])]), Table((), []))
        self.assertEqual(whole(PAIR, [Table(AB, []), Table(BC, [])]), Table(("a", "b", "c"), []))
        free = whole((("a",), ("b",)), [Table(("a",), [((0,), 1), ((1,), 2)]), Table(("b",), [((0,), 2), ((1,), 1)])])
        self.assertEqual(free.counts(), [((0, 0), 1), ((1, 0), 1), ((1, 1), 1)])

    def test_counts_of_thirty_figures(self):
        most = 10 ** 30 - 1
        family = sums(CHAIN, Table(("a", "b", "c", "d"), [((0, 0, 0, 0), most), ((1, 0, 0, 1), most - 7)]))
        self.assertTrue(is_whole(CHAIN, family, whole(CHAIN, family)))

    def test_cored(self):
        for web, columns in ((RING, ("ring", ("a", "b", "c", "d"))), (SHELL, ("shell", ("a", "b", "c")))):
            family = [Table(heading, []) for heading in web]
            for call in (whole, bound, whole_set):
                self.assertEqual(raised(Cored, call, web, family).core, columns)

    def test_cored_comes_ahead_of_disagree(self):
        family = [LEFT, Table(("a", "c"), []), Table(BC, [])]
        for call in (whole, bound, whole_set):
            self.assertEqual(raised(Cored, call, SHELL, family).core, core(SHELL))

    def test_disagree(self):
        for call in (whole, bound, lambda web, family: whole_by(web, family, ((1, 0),))):
            error = raised(Disagree, call, PAIR, [LEFT, RIGHT * 2])
            self.assertEqual((error.one, error.other, error.row), (0, 1, (1,)))
        one = ones(("a", "b"), (0, 0))
        family = [one, ones(("b", "c"), (0, 0)), ones(("c", "d"), (5, 0), (5, 1))]
        error = raised(Disagree, whole, CHAIN, family)
        self.assertEqual((error.one, error.other, error.row), disagreement(CHAIN, family))
        self.assertEqual((error.one, error.other, error.row), (0, 2, ()))

    def test_disagreement_of_drawn_families(self):
        rng = drawn(303)
        for _ in range(60):
            web = folding_web(rng)
            family = drawn_family(rng, web)
            told = disagreement(web, family)
            if told is not None:
                for call in (whole, bound, lambda web, family: whole_by(web, family, folding(web))):
                    error = raised(Disagree, call, web, family)
                    self.assertEqual((error.one, error.other, error.row), told)

    def test_bound(self):
        self.assertEqual(bound(PAIR, [LEFT, RIGHT]), 3)
        self.assertEqual(bound(PAIR, [LEFT * 5, RIGHT * 5]), 3)
        self.assertEqual(bound((AB,), [LEFT]), 2)
        self.assertEqual(bound((("a",), ("b",)), [ones(("a",), (0,), (1,)), ones(("b",), (0,), (1,))]), 3)
        self.assertEqual(bound((("a",), ("b",)), [Table(("a",), []), Table(("b",), [])]), 0)
        rng = drawn(304)
        for _ in range(60):
            web = folding_web(rng)
            family = agreeing_family(rng, web)
            rows = [len(table) for table in family]
            for x, y in folding(web):
                rows.append(-len(summed(family[x], seam(web, x, y))))
            self.assertEqual(bound(web, family), sum(rows))

    def test_nothing_that_is_passed_changes(self):
        family = [LEFT, RIGHT]
        for call in (whole, bound, lost, whole_set):
            call(PAIR, family)
        whole_by(PAIR, family, ((1, 0),))
        self.assertEqual(family, [LEFT, RIGHT])
        self.assertEqual(RIGHT.counts(), [((1, 0), 4), ((1, 5), 1), ((2, 0), 1)])


class Lost(unittest.TestCase):
    def test_by_hand(self):
        self.assertIsNone(lost(PAIR, [LEFT, RIGHT]))
        self.assertIsNone(lost(PAIR, (LEFT, RIGHT * 2)))
        self.assertEqual(lost(PAIR, [LEFT, Table(BC, [((1, 0), 1)])]), (0, (2, 2)))
        self.assertEqual(lost(PAIR, [LEFT, RIGHT + Table(BC, [((0, 3), 1)])]), (1, (0, 3)))
        self.assertEqual(lost(SHELL, PARITY), (0, (0, 1)))

    def test_tables_without_rows(self):
        self.assertEqual(lost(PAIR, [LEFT, Table(BC, [])]), (0, (0, 1)))
        self.assertEqual(lost(PAIR, [Table(AB, []), RIGHT]), (1, (1, 0)))
        self.assertIsNone(lost(PAIR, [Table(AB, []), Table(BC, [])]))
        self.assertIsNone(lost(((),), [Table((), [])]))
        self.assertEqual(lost((("a",), ("b",)), [ones(("a",), (3,)), Table(("b",), [])]), (0, (3,)))

    def test_one_heading_and_like_headings(self):
        self.assertIsNone(lost((AB,), [LEFT]))
        self.assertIsNone(lost((AB, AB), [LEFT, LEFT * 3]))
        self.assertEqual(lost((AB, AB), [LEFT, ones(AB, (2, 2), (5, 5))]), (0, (0, 1)))
        self.assertEqual(lost((AB, AB), [ones(AB, (2, 2)), ones(AB, (2, 2), (5, 5))]), (1, (5, 5)))

    def test_rows_that_meet_two_by_two_alone(self):
        tables = [ones(SHELL[0], (0, 0), (1, 1)), ones(SHELL[1], (0, 0), (1, 1)), ones(SHELL[2], (0, 1), (1, 0))]
        self.assertEqual(lost(SHELL, tables), (0, (0, 0)))
        tables[2] = ones(SHELL[2], (0, 0), (0, 1), (1, 0))
        self.assertEqual(lost(SHELL, tables), (0, (1, 1)))
        tables[2] = ones(SHELL[2], (0, 0), (1, 1), (1, 2))
        self.assertEqual(lost(SHELL, tables), (2, (1, 2)))

    def test_drawn(self):
        rng = drawn(305)
        told = {True: 0, False: 0}
        for n in range(240):
            web = cored_web(rng, "abcde") if n % 2 else drawn_web(rng, most_headings=4, most_columns=5, widest=3)
            if len(web) > 5:
                continue
            family = agreeing_family(rng, web, rows=5) if n % 3 else drawn_family(rng, web, rows=5)
            self.assertEqual(lost(web, family), first_lost(web, family), (web, family))
            told[lost(web, family) is None] += 1
        self.assertGreater(min(told.values()), 20)

    def test_no_table_is_too_great(self):
        web = tuple([(letter,) for letter in "abcdef"])
        family = [ones(heading, *[(k,) for k in range(6)]) for heading in web]
        self.assertIsNone(lost(web, family))
        raised(TooMany, join, family)
        shell = [ones(heading, *[(j, k) for j in range(6) for k in range(6)]) for heading in SHELL]
        self.assertIsNone(lost(SHELL, shell))
        wide = [ones(("a",), *[(k,) for k in range(64)]), Table(("b",), [])]
        self.assertEqual(lost((("a",), ("b",)), wide), (0, (0,)))

    def test_what_broken_returns(self):
        rng = drawn(306)
        for _ in range(40):
            web = cored_web(rng)
            family = broken(web)
            self.assertEqual(lost(web, family), (0, family[0].rows()[0]))


class WholeSet(unittest.TestCase):
    def test_by_hand(self):
        self.assertEqual(whole_set(PAIR, [LEFT, RIGHT * 2]).counts(),
                         [((0, 1, 0), 1), ((0, 1, 5), 1), ((2, 2, 0), 1)])
        self.assertEqual(whole_set((AB,), (LEFT,)).counts(), [((0, 1), 1), ((2, 2), 1)])
        self.assertEqual(whole_set(PAIR, [Table(AB, []), Table(BC, [])]), Table(("a", "b", "c"), []))
        self.assertEqual(whole_set(((),), [Table((), [((), 4)])]).counts(), [((), 1)])

    def test_disagree_by_rows_not_by_counts(self):
        error = raised(Disagree, whole_set, PAIR, [LEFT, Table(BC, [((1, 0), 1), ((3, 0), 1)])])
        self.assertEqual((error.one, error.other, error.row), (0, 1, (2,)))
        family = [ones(("a", "b"), (0, 0)), ones(("b", "c"), (0, 0)), ones(("c", "d"), (0, 0), (5, 0))]
        error = raised(Disagree, whole_set, CHAIN, family)
        self.assertEqual((error.one, error.other, error.row), (1, 2, (5,)))
        error = raised(Disagree, whole_set, (("a",), ("b",)), [ones(("a",), (0,)), Table(("b",), [])])
        self.assertEqual((error.one, error.other, error.row), (0, 1, ()))

    def test_drawn(self):
        rng = drawn(307)
        met = 0
        for n in range(120):
            web = folding_web(rng, most_headings=4)
            family = [table * rng.randint(1, 3) for table in agreeing_family(rng, web)] if n % 2 else \
                drawn_family(rng, web)
            pairs = [(x, y, meet(family[x], family[y])) for x in range(len(web)) for y in range(x + 1, len(web))]
            unlike = [told for told in pairs if told[2] is not None]
            if unlike:
                error = raised(Disagree, whole_set, web, family)
                self.assertEqual((error.one, error.other, error.row), unlike[0])
            else:
                made = whole_set(web, family)
                self.assertEqual(made.counts(), [(row, 1) for row in join_rows(web, family)])
                self.assertEqual(made.heading(), columns_of(web))
                self.assertIsNone(lost(web, family))
                met += 1
        self.assertGreater(met, 40)

    def test_just_600_rows_and_more(self):
        web = (("a",), ("b",))
        left, right = ones(("a",), *[(k,) for k in range(20)]), ones(("b",), *[(k,) for k in range(30)])
        self.assertEqual(len(whole_set(web, [left, right])), 600)
        raised(TooMany, whole_set, web, [left + ones(("a",), (20,)), right])

    def test_disagree_comes_ahead_of_too_many(self):
        web = (("a",), ("b",), ("b",))
        left, right = ones(("a",), *[(k,) for k in range(30)]), ones(("b",), *[(k,) for k in range(30)])
        error = raised(Disagree, whole_set, web, [left, right, ones(("b",), (0,))])
        self.assertEqual((error.one, error.other, error.row), (1, 2, (1,)))
        raised(TooMany, whole_set, web, [left, right, right])


class OneAndTheSame(unittest.TestCase):
    def test_webs_that_fold(self):
        rng = drawn(308)
        for _ in range(80):
            web = folding_web(rng, most_headings=4, most_columns=5)
            family = agreeing_family(rng, web)
            self.assertTrue(is_whole(web, family, whole(web, family)))
            self.assertIsNone(lost(web, [table * rng.randint(1, 2) for table in family]))

    def test_webs_that_do_not(self):
        rng = drawn(309)
        for _ in range(80):
            web = cored_web(rng)
            family = broken(web)
            self.assertIsNone(disagreement(web, family))
            for x in range(len(web)):
                for y in range(x + 1, len(web)):
                    self.assertIsNone(meet(family[x], family[y]))
            # A row that is lost is in no whole, so the family has none.
            self.assertIsNotNone(lost(web, family))


if __name__ == "__main__":
    unittest.main()
