"""[0.1] to [0.3], [2.6] and [3.6]: what the document promises over the whole program."""

import unittest

from agreetwo.bounds import greatest, least, whole_with
from agreetwo.broken import broken
from agreetwo.cores import core, judge_core
from agreetwo.deeds import behind, letters, verdict
from agreetwo.ears import folding, judge_folding
from agreetwo.errors import AgreeError, Missing, TooMany
from agreetwo.exchanges import exchanged, judge_exchanges
from agreetwo.families import disagreement, is_whole, sums
from agreetwo.headings import part
from agreetwo.leading import all_wholes, leading, two_wholes
from agreetwo.mends import breaking, cores, critical, healing
from agreetwo.orders import best_order, clean_order, filled, judge_order, least_width
from agreetwo.parted import joins_back, unsplit
from agreetwo.plans import judge_paper, judge_plan
from agreetwo.products import even_whole, free, product_rows, product_total
from agreetwo.splits import has_split, must_split, splits_of
from agreetwo.steps import done, full_plan, is_clean
from agreetwo.sure import is_settled, judge_unlike, spoiled, two_unlike
from agreetwo.tables import Table, summed
from agreetwo.trees import is_folding_tree, tree_of
from agreetwo.webchanges import with_heading
from agreetwo.webs import columns_of
from agreetwo.wholes import lost, whole
from tests.support import (agreeing_family, cored_web, drawn, drawn_family, drawn_tangle, drawn_web, grown_web, ring_web,
                           shell_web)
from tests.tableways import all_headings, all_splits
from tests.test_steps import drawn_plan


def webs_of_every_kind(rng, many):
    """Drawn webs: grown ones, tangles, rings, shells, and such as come."""
    found = [ring_web("abcd"), ring_web("acbd"), ring_web("abcdefg"), shell_web("abc"), shell_web("abcdefg"),
             ((),), ((), ()), (("a",),), (("a", "b"), ("a", "b")), (("a",), ("b",), ("c",)), (tuple("abcdefgh"),)]
    while len(found) < many:
        found.append(rng.choice([drawn_web, drawn_tangle, cored_web, lambda rng: grown_web(rng, 7, 8, 2)])(rng))
    return found


def least_trees(web):
    """Some trees of a web: each heading tied to the one ahead, all tied to the first one, all to the last one."""
    last = len(web) - 1
    return [tuple([(x, x + 1) for x in range(last)]), tuple([(0, x) for x in range(1, last + 1)]),
            tuple([(x, last) for x in range(last)])]


class FoldsOrCore(unittest.TestCase):
    def test_never_both_and_never_none(self):
        rng = drawn(1)
        told = {True: 0, False: 0}
        for web in webs_of_every_kind(rng, 250):
            pairs, found = folding(web), core(web)
            self.assertIs(pairs is None, found is not None, web)
            self.assertIs(cores(web) == [], pairs is not None)
            if pairs is None:
                self.assertIsNone(judge_core(web, found))
                self.assertEqual(cores(web)[0], found)
            else:
                self.assertIsNone(judge_folding(web, pairs))
                self.assertTrue(is_folding_tree(web, tree_of(pairs)))
            told[pairs is None] += 1
        self.assertGreater(min(told.values()), 60)

    def test_what_they_say_of_one_web_goes_together(self):
        rng = drawn(2)
        for web in webs_of_every_kind(rng, 80):
            if not columns_of(web):
                continue
            folds = folding(web) is not None
            order = clean_order(web)
            self.assertIs(order is not None, folds)
            self.assertIs(healing(web) == (), folds)
            self.assertIsNotNone(folding(filled(web, best_order(web))))
            if folds:
                self.assertIsNone(judge_order(web, order))
                self.assertEqual((critical(web), breaking(web)), ((), []))
                self.assertEqual(least_width(web), max(map(len, web)))
            elif len(web) < 7:
                self.assertIsNotNone(folding(with_heading(web, healing(web))))


class WhereTheWebFolds(unittest.TestCase):
    def drawn_webs(self, seed, many, columns=5):
        rng = drawn(seed)
        for n in range(many):
            yield rng, grown_web(rng, 5, columns, 1 + n % 2)

    def test_what_agrees_is_the_sums_of_one_table(self):
        for rng, web in self.drawn_webs(3, 60):
            family = agreeing_family(rng, web)
            self.assertTrue(is_whole(web, family, whole(web, family)))
            self.assertIsNone(lost(web, family))
            state = {"abcdefg"[x]: table for x, table in enumerate(family)}
            self.assertEqual(verdict(state), ("whole", whole(web, family)))

    def test_letters_make_all_agree(self):
        for rng, web in self.drawn_webs(4, 60):
            state = {"abcdefg"[x]: table for x, table in enumerate(drawn_family(rng, web))}
            for deed in letters(state):
                state = behind(state, deed)
            self.assertEqual(verdict(state)[0], "whole")

    def test_steps_clean_all_data(self):
        for rng, web in self.drawn_webs(5, 30):
            plan = full_plan(web)
            family = drawn_family(rng, web)
            behind_it = done(web, family, plan)
            for x in range(len(web)):
                self.assertEqual(judge_plan(web, plan, x)[0], "clean")
                self.assertTrue(is_clean(web, behind_it, x))

    def test_a_product_of_shares_is_such_a_whole(self):
        for rng, web in self.drawn_webs(6, 40):
            family = agreeing_family(rng, web)
            if family[0].total():
                n, table = even_whole(web, family)
                self.assertEqual(sums(web, table), [one * n for one in family])
                self.assertEqual(product_total(web, tree_of(folding(web)), family), (1, 1))
            for columns in all_headings(columns_of(web))[:8]:
                self.assertEqual(product_total(web, tree_of(folding(web)), free(web, columns)), (1, 1))

    def test_splits_in_two_put_a_table_together_again(self):
        told = {True: 0, False: 0}
        for rng, web in self.drawn_webs(7, 80, columns=4):
            table = whole(web, agreeing_family(rng, web))
            back = joins_back(web, table)
            self.assertIs(back, all([has_split(table, split) for split in splits_of(web)]))
            told[back] += 1
        self.assertGreater(min(told.values()), 5)

    def test_what_nobody_holds_is_as_great_as_the_tables_let_it(self):
        for rng, web in self.drawn_webs(8, 40):
            family = agreeing_family(rng, web)
            columns = columns_of(web)
            for row in whole(web, family).rows()[:4]:
                counts = [table.times(part(columns, row, table.heading())) for table in family]
                self.assertEqual(greatest(web, family, row), min(counts))
                for n in (least(web, family, row), greatest(web, family, row)):
                    self.assertEqual(whole_with(web, family, row, n).times(row), n)

    def test_all_wholes_are_led_to_one_another(self):
        for rng, web in self.drawn_webs(9, 40, columns=4):
            family = agreeing_family(rng, web, rows=4, most=2)
            paper = two_unlike(web, family)
            self.assertIs(paper is None, is_settled(web, family))
            if paper is not None:
                self.assertIsNone(judge_unlike(web, family, paper))
                self.assertIsNone(judge_exchanges(web, paper[0], leading(web, *paper), paper[1]))
            try:
                self.assertIs(len(all_wholes(web, family)) == 1, paper is None)
            except TooMany:
                self.assertIsNotNone(paper)


class WhereTheWebHasACore(unittest.TestCase):
    def webs(self):
        rng = drawn(10)
        found = [ring_web("abcd"), ring_web("abcde"), ring_web("acbd"), shell_web("abc"), shell_web("abcd")]
        return found + [cored_web(rng, "abcde") for _ in range(30)]

    def test_broken(self):
        for web in self.webs():
            family = broken(web)
            self.assertIsNone(disagreement(web, family))
            # A row that is lost can stand in no whole.
            self.assertIsNotNone(lost(web, family))

    def test_no_plan_cleans_all(self):
        rng = drawn(11)
        for web in self.webs():
            plan = drawn_plan(rng, web)
            self.assertEqual(done(web, broken(web), plan), broken(web))
            self.assertFalse(all([is_clean(web, broken(web), x) for x in range(len(web))]))
            try:
                papers = [judge_plan(web, plan, x) for x in range(len(web))]
            except TooMany:
                continue
            shown = [x for x, paper in enumerate(papers) if paper[0] == "data"]
            self.assertTrue(shown)
            for x in shown:
                self.assertIsNone(judge_paper(web, plan, x, papers[x]))
                self.assertFalse(is_clean(web, done(web, papers[x][1], plan), x))

    def test_free(self):
        for web in self.webs():
            columns = tuple(sorted(core(web)[1]))
            for tree in least_trees(web):
                p, q = product_total(web, tree, free(web, columns))
                self.assertLessEqual(2 * p, q)
                self.assertEqual(len(product_rows(web, tree, free(web, columns))) > 0, True)

    def test_unsplit(self):
        for web in self.webs():
            table = unsplit(web)
            self.assertFalse(joins_back(web, table))
            for split in all_splits(columns_of(web)):
                self.assertTrue(has_split(table, split) or not must_split(web, split))

    def test_spoiled(self):
        for web in self.webs():
            family, row = spoiled(web)
            self.assertIsNone(disagreement(web, family))
            counts = [table.times(part(columns_of(web), row, table.heading())) for table in family]
            self.assertGreaterEqual(min(counts), 1)

    def test_two_wholes(self):
        for web in self.webs():
            one, other = two_wholes(web)
            self.assertIsNone(judge_unlike(web, sums(web, one), (one, other)))
            for row in one.rows()[:3]:
                for mate in one.rows()[:3]:
                    for side in all_headings(columns_of(web)):
                        with self.assertRaises(AgreeError):
                            exchanged(web, one, (row, mate, side, 1))


class Arguments(unittest.TestCase):
    def test_families_may_be_tuples_and_are_not_kept(self):
        rng = drawn(12)
        for _ in range(20):
            web = grown_web(rng)
            family = agreeing_family(rng, web)
            copy = list(family)
            for call in (whole, is_settled, two_unlike, all_wholes, lost):
                try:
                    told = call(web, family)
                except (AgreeError, Missing):
                    continue
                self.assertEqual(told, call(web, tuple(family)))
                self.assertEqual(family, copy)

    def test_the_states_that_are_passed_stay(self):
        table = Table(("a",), [((1,), 2)])
        state = {"one": table}
        made = behind(state, ("holder", "two", ("a",)))
        made["one"] = None
        self.assertEqual(state, {"one": table})
        self.assertEqual(summed(table, ()).counts(), [((), 2)])


if __name__ == "__main__":
    unittest.main()
