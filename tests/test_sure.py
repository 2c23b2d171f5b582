"""[7.4] and [7.6]: what is sure, what is open, papers that show two wholes, and spoiled families."""

import unittest

from agreetwo.bounds import greatest, least, whole_with
from agreetwo.broken import core_rows, lots_of
from agreetwo.cores import core
from agreetwo.ears import folding
from agreetwo.errors import Cored, Disagree, Folds, TooMany
from agreetwo.families import disagreement, is_whole, sums
from agreetwo.joints import join
from agreetwo.leading import two_wholes
from agreetwo.sure import is_settled, judge_unlike, open_rows, spoiled, surely, two_unlike
from agreetwo.tables import Table, summed
from agreetwo.webs import columns_of
from agreetwo.wholes import whole
from tests.support import (AB, BC, CHAIN, RING, SHELL, agreeing_family, any_values, cored_web, drawn, drawn_family,
                           drawn_table, folding_web, grown_web, ones, raised, ring_web, shell_web)
from tests.tableways import all_tables_of, count_in, join_rows

WEB, ABC = (AB, BC), ("a", "b", "c")
ONE = Table(AB, [((0, 0), 2), ((1, 0), 1), ((1, 1), 1)])
TWO = Table(BC, [((0, 0), 1), ((0, 1), 2), ((1, 1), 1)])
FAMILY = (ONE, TWO)
CALLS = [surely, open_rows, two_unlike, is_settled]


class Sure(unittest.TestCase):
    def test_by_hand(self):
        self.assertEqual(surely(WEB, FAMILY), [((0, 0, 1), 1), ((1, 1, 1), 1)])
        self.assertEqual(open_rows(WEB, list(FAMILY)),
                         [((0, 0, 0), 0, 1), ((0, 0, 1), 1, 2), ((1, 0, 0), 0, 1), ((1, 0, 1), 0, 1)])
        self.assertIs(is_settled(WEB, FAMILY), False)
        self.assertEqual(two_unlike(WEB, FAMILY),
                         (whole_with(WEB, FAMILY, (0, 0, 0), 0), whole_with(WEB, FAMILY, (0, 0, 0), 1)))

    def test_edges(self):
        self.assertEqual(surely((AB,), [ONE]), ONE.counts())
        self.assertEqual(surely((AB, AB, ("a",)), [ONE, ONE, summed(ONE, ("a",))]), ONE.counts())
        for web, family in [((AB,), [ONE]), ((AB, AB), [ONE, ONE]), (((),), [Table((), [((), 7)])]),
                            (WEB, [Table(AB, []), Table(BC, [])]), ((("a",), ("b",)), [ones(("a",), (1,)),
                                                                                      ones(("b",), (2,))])]:
            self.assertEqual(open_rows(web, family), [])
            self.assertIsNone(two_unlike(web, family))
            self.assertIs(is_settled(web, family), True)
        self.assertEqual(surely(WEB, [Table(AB, []), Table(BC, [])]), [])

    def test_great_counts(self):
        most = 10 ** 30 - 1
        web = (("a",), ("b",))
        family = [Table(("a",), [((0,), most), ((1,), 1)]), Table(("b",), [((0,), most), ((1,), 1)])]
        self.assertEqual(surely(web, family), [((0, 0), most - 1)])
        self.assertEqual(open_rows(web, family)[0], ((0, 0), most - 1, most))
        self.assertIs(is_settled(web, family), False)

    def test_all_wholes_show_them(self):
        rng = drawn(711)
        told = {True: 0, False: 0}
        for n in range(200):
            web = grown_web(rng) if n % 4 else folding_web(rng, most_headings=4, most_columns=4)
            family = agreeing_family(rng, web, rows=rng.choice([2, 4, 6]), values=1 + n % 2, most=2)
            wholes, rows = all_tables_of(web, family), join_rows(web, family)
            lows = [min(count_in(counts, row) for counts in wholes) for row in rows]
            highs = [max(count_in(counts, row) for counts in wholes) for row in rows]
            self.assertEqual(surely(web, family), [(row, low) for row, low in zip(rows, lows) if low])
            expected = [(row, low, high) for row, low, high in zip(rows, lows, highs) if low < high]
            self.assertEqual(open_rows(web, family), expected)
            self.assertIs(is_settled(web, family), len(wholes) == 1)
            self.assertIs(is_settled(web, family), not expected)
            paper = two_unlike(web, family)
            if not expected:
                self.assertIsNone(paper)
                self.assertEqual(whole(web, family).counts(), wholes[0])
            else:
                row, low, high = expected[0]
                self.assertEqual(paper, (whole_with(web, family, row, low), whole_with(web, family, row, high)))
                self.assertIsInstance(paper, tuple)
                self.assertIn(paper[0].counts(), wholes)
                self.assertIn(paper[1].counts(), wholes)
                self.assertIsNone(judge_unlike(web, family, paper))
            told[not expected] += 1
        self.assertGreater(min(told.values()), 30)

    def test_what_is_told_is_what_least_and_greatest_tell(self):
        rng = drawn(712)
        for _ in range(40):
            web = grown_web(rng, 6, 7, 2)
            family = agreeing_family(rng, web, rows=12, values=1, most=9)
            rows = join(family).rows()
            pairs = [(row, least(web, family, row)) for row in rows]
            self.assertEqual(surely(web, family), [pair for pair in pairs if pair[1]])
            triples = [(row, low, greatest(web, family, row)) for row, low in pairs]
            self.assertEqual(open_rows(web, family), [triple for triple in triples if triple[1] < triple[2]])

    def test_cored_then_disagree(self):
        for web in (RING, SHELL):
            family = [ones(heading, (0, k)) for k, heading in enumerate(web)]
            self.assertIsNotNone(disagreement(web, family))
            for call in CALLS:
                self.assertEqual(raised(Cored, call, web, family).core, core(web))
        rng, many = drawn(713), 0
        for _ in range(40):
            web = folding_web(rng)
            family = drawn_family(rng, web)
            told = disagreement(web, family)
            if told is not None:
                many += 1
                for call in CALLS:
                    error = raised(Disagree, call, web, family)
                    self.assertEqual((error.one, error.other, error.row), told)
        self.assertGreater(many, 10)

    def test_too_many(self):
        web = (("a",), ("b",), ("c",))
        left = ones(("a",), *[(k,) for k in range(30)])
        right = ones(("b",), *[(k,) for k in range(30)])
        family = [left, right, Table(("c",), [((0,), 30)])]
        for call in (open_rows, two_unlike, is_settled):
            raised(TooMany, call, web, family)
        self.assertEqual(surely(web, family), [])
        many = [Table(("a",), [((k,), 40 if k == 0 else 1) for k in range(30)]),
                Table(("b",), [((k,), 40 if k == 0 else 1) for k in range(30)]), Table(("c",), [((0,), 69)])]
        self.assertEqual(surely(web, many), [((0, 0, 0), 11)])
        # Disagree comes ahead of it, and what is too great on the way is too great though the join of all is small.
        for call in (open_rows, two_unlike, is_settled):
            raised(Disagree, call, web, [left, right, ones(("c",), (0,))])
            raised(TooMany, call, (("a",), ("b",), AB), [left, right, ones(AB, *[(k, k) for k in range(30)])])
            call((AB, ("a",), ("b",)), [ones(AB, *[(k, k) for k in range(30)]), left, right])

    def test_600_rows(self):
        web = (("a",), ("b",))
        family = [Table(("a",), [((k,), 3) for k in range(20)]), Table(("b",), [((k,), 2) for k in range(30)])]
        self.assertEqual(len(open_rows(web, family)), 600)
        self.assertIs(is_settled(web, family), False)

    def test_nothing_that_is_passed_changes_and_lists_are_new(self):
        family = [ONE, TWO]
        for call in CALLS:
            call(WEB, family)
        surely(WEB, family).clear()
        open_rows(WEB, family).clear()
        self.assertEqual(family, [ONE, TWO])
        self.assertEqual(len(surely(WEB, family)), 2)
        self.assertEqual(len(open_rows(WEB, family)), 4)


class JudgeUnlike(unittest.TestCase):
    PAPER = two_unlike(WEB, FAMILY)

    def test_by_hand(self):
        first, second = self.PAPER
        self.assertIsNone(judge_unlike(WEB, FAMILY, self.PAPER))
        self.assertIsNone(judge_unlike(WEB, list(FAMILY), (second, first)))
        self.assertEqual(judge_unlike(WEB, FAMILY, (first, first)), ("same",))
        self.assertEqual(judge_unlike(WEB, FAMILY, (first, second * 2)), ("sum", 1, 0, (0, 0)))
        self.assertEqual(judge_unlike(WEB, FAMILY, (first * 2, second * 2)), ("sum", 0, 0, (0, 0)))
        self.assertEqual(judge_unlike(WEB, FAMILY, (first * 2, first * 2)), ("sum", 0, 0, (0, 0)))

    def test_the_first_heading_and_the_first_row(self):
        first, second = self.PAPER
        # Heading 0 sees the same; heading 1 sees (0, 0) once less and (0, 9) once more.
        other = Table(ABC, [((0, 0, 9) if row == (0, 0, 0) else row, n) for row, n in second.counts()])
        self.assertEqual(judge_unlike(WEB, FAMILY, (first, other)), ("sum", 1, 1, (0, 0)))
        more = first + ones(ABC, (5, 0, 1))
        self.assertEqual(judge_unlike(WEB, FAMILY, (more, second)), ("sum", 0, 0, (5, 0)))
        self.assertEqual(judge_unlike(WEB, FAMILY, (Table(ABC, []), second)), ("sum", 0, 0, (0, 0)))

    def test_form(self):
        first, second = self.PAPER
        wrong = [[first, second], (first,), (first, second, first), (first, None), (None, second), (first, ONE),
                 (ONE, TWO), (), first, ((first, second),), (first, [second]), (first, second.counts()),
                 (Table(("a", "b", "d"), []), second), {0: first, 1: second}, (True, first)]
        for value in wrong + any_values():
            self.assertEqual(judge_unlike(WEB, FAMILY, value), ("form",), value)

    def test_form_of_any_web_and_family(self):
        for value in any_values():
            self.assertEqual(judge_unlike(RING, [Table(heading, []) for heading in RING], value), ("form",))
            self.assertEqual(judge_unlike(WEB, [ONE, TWO * 2], value), ("form",))

    def test_webs_with_a_core_and_families_that_do_not_agree(self):
        for web in (RING, SHELL, shell_web("abcd"), ring_web("abcde")):
            pair = two_wholes(web)
            family = sums(web, pair[0])
            self.assertIsNone(judge_unlike(web, family, pair))
            self.assertIsNone(judge_unlike(web, family, pair[::-1]))
            self.assertEqual(judge_unlike(web, family, pair[:1] * 2), ("same",))
            told = judge_unlike(web, family, (pair[0], pair[1] + pair[1]))
            self.assertEqual(told[:3], ("sum", 1, 0))
        told = judge_unlike(WEB, [ONE, TWO * 2], self.PAPER)
        self.assertEqual(told, ("sum", 0, 1, (0, 0)))

    def test_drawn(self):
        rng = drawn(714)
        told = {}
        for n in range(400):
            web = cored_web(rng, "abcd") if n % 3 == 0 else grown_web(rng, 3, 3)
            columns = columns_of(web)
            one = drawn_table(rng, columns, rows=5, values=1, most=2)
            family = sums(web, one) if n % 5 else drawn_family(rng, web)
            wholes = [one] + [Table(columns, counts) for counts in (all_tables_of(web, family) if n % 2 else [])[:3]]
            value = (rng.choice(wholes), rng.choice(wholes * 2 + [drawn_table(rng, columns, rows=3, values=1)]))
            expected = ("same",) if value[0] == value[1] else None
            for k in (1, 0):
                for x in reversed(range(len(web))):
                    mine, theirs = summed(value[k], web[x]), family[x]
                    rows = [row for row in sorted(mine.rows() + theirs.rows()) if mine.times(row) != theirs.times(row)]
                    if rows:
                        expected = ("sum", k, x, rows[0])
            self.assertEqual(judge_unlike(web, family, value), expected)
            told[expected and expected[:2]] = told.get(expected and expected[:2], 0) + 1
        for key in (None, ("same",), ("sum", 0), ("sum", 1)):
            self.assertGreater(told[key], 10, told)


class Spoiled(unittest.TestCase):
    def test_by_hand(self):
        family, row = spoiled(SHELL)
        self.assertEqual(family[0].counts(), [((0, 0), 1), ((0, 1), 1), ((1, 0), 1)])
        self.assertEqual(row, (0, 0, 0))
        family, row = spoiled(RING)
        self.assertEqual([table.rows() for table in family],
                         [[(0, 0), (0, 1), (1, 0)], [(0, 0), (0, 1), (1, 0)], [(0, 0), (1, 1)],
                          [(0, 0), (0, 1), (1, 0)]])
        self.assertEqual(row, (0, 0, 0, 0))

    def test_drawn(self):
        rng = drawn(715)
        for n in range(60):
            web = cored_web(rng, "abcd" if n % 2 else "abcdef")
            columns = columns_of(web)
            told = spoiled(web)
            self.assertIsInstance(told, tuple)
            family, row = told
            self.assertIsInstance(family, list)
            self.assertEqual(row, (0,) * len(columns))
            table = ones(columns, *core_rows(web, "unit"))
            self.assertEqual(len(table), len(lots_of(web)))
            self.assertEqual(family, sums(web, table))
            self.assertTrue(is_whole(web, family, table))
            # What greatest tells where a web folds is one or more here, but no whole has the row.
            parts = [one.times((0,) * len(heading)) for heading, one in zip(web, family)]
            self.assertGreaterEqual(min(parts), 1)
            wholes = all_tables_of(web, family)
            self.assertIn(table.counts(), wholes)
            self.assertEqual(max(count_in(counts, row) for counts in wholes), 0)

    def test_folds(self):
        self.assertEqual(raised(Folds, spoiled, CHAIN).pairs, ((0, 1), (1, 2)))
        rng = drawn(716)
        for _ in range(20):
            web = folding_web(rng)
            self.assertEqual(raised(Folds, spoiled, web).pairs, folding(web))

    def test_returned_lists_are_new(self):
        spoiled(SHELL)[0].clear()
        self.assertEqual(len(spoiled(SHELL)[0]), 3)


if __name__ == "__main__":
    unittest.main()
