"""[4.2] and [4.3]: trees of plans, and papers that show whether a plan cleans."""

import unittest

from agreetwo.broken import broken
from agreetwo.errors import TooMany
from agreetwo.families import check_family
from agreetwo.plans import data_of, judge_paper, judge_plan, unrolled
from agreetwo.steps import done, full_plan, is_clean
from agreetwo.tables import Table
from tests.support import (AB, BC, CHAIN, RING, SHELL, any_values, cored_web, drawn, drawn_family, drawn_web,
                           folding_web, ones, raised)
from tests.tableways import first_nodes, rows_of_nodes, tree_list
from tests.test_steps import drawn_plan

WEB = (("a",), ("a", "w"), ("a", "e"), ("a", "e", "g"))
PLAN = ((3, 2), (0, 3), (2, 1), (0, 2))
PATH = (AB, BC)


def doubling(many):
    """So many steps between two headings, in turn: the trees have 2, 3, 5, 8 .. nodes behind them."""
    return tuple([(k % 2, 1 - k % 2) for k in range(many)])


def just_sixty():
    """A plan of eleven steps behind which the tree of 0 has 60 nodes."""
    return ((1, 2), (2, 1), (1, 2), (2, 1), (1, 2), (2, 1), (1, 2), (0, 1), (0, 2), (0, 3), (0, 3), (0, 3), (0, 3))


def trees_within_reach(rng, web, most):
    """A plan and the number of a heading whose tree has at most so many nodes."""
    while True:
        plan = drawn_plan(rng, web)
        x = rng.randrange(len(web))
        if len(tree_list(web, plan, x)) <= most:
            return plan, x


class Unrolled(unittest.TestCase):
    def test_by_hand(self):
        self.assertEqual(unrolled(WEB, PLAN, 0), [(0, None), (3, 0), (2, 1), (2, 0), (1, 3)])
        self.assertEqual(unrolled(WEB, PLAN, 1), [(1, None)])
        self.assertEqual(unrolled(WEB, PLAN, 2), [(2, None), (1, 0)])
        self.assertEqual(unrolled(WEB, PLAN, 3), [(3, None), (2, 0)])
        self.assertEqual(unrolled(PATH, (), 0), [(0, None)])
        self.assertEqual(unrolled((AB,), (), 0), [(0, None)])

    def test_copies_stay_as_they_were(self):
        self.assertEqual(unrolled(PATH, ((0, 1), (1, 0), (0, 1)), 0), [(0, None), (1, 0), (1, 0), (0, 2), (1, 3)])

    def test_drawn(self):
        rng = drawn(341)
        for n in range(150):
            web = cored_web(rng) if n % 2 else drawn_web(rng)
            plan = drawn_plan(rng, web, 8)
            for x in range(len(web)):
                nodes = tree_list(web, plan, x)
                if len(nodes) <= 60:
                    self.assertEqual(unrolled(web, plan, x), nodes)
                else:
                    raised(TooMany, unrolled, web, plan, x)

    def test_sixty_nodes_and_one_more(self):
        web = (AB, BC, ("c", "d"), ("d", "e"))
        sizes = [[len(tree_list(web, plan, x)) for x in range(4)] for plan in (just_sixty(), just_sixty() + ((0, 3),))]
        self.assertEqual([told[0] for told in sizes], [60, 61])
        for plan, size in zip((just_sixty(), just_sixty() + ((0, 3),)), sizes):
            for x in range(4):
                if size[x] <= 60:
                    self.assertEqual(len(unrolled(web, plan, x)), size[x])
                else:
                    raised(TooMany, unrolled, web, plan, x)
                    raised(TooMany, judge_plan, web, plan, x)

    def test_other_trees_may_be_greater(self):
        plan = doubling(12)
        self.assertEqual(len(tree_list(PATH, plan, 0)), 233)
        raised(TooMany, unrolled, PATH, plan, 0)
        raised(TooMany, unrolled, PATH, plan, 1)
        web = PATH + (("c", "d"),)
        self.assertEqual(unrolled(web, plan, 2), [(2, None)])
        self.assertEqual(judge_plan(web, plan, 2)[0], "data")
        # This is known ahead of any tree, however great the trees would be.
        raised(TooMany, unrolled, PATH, doubling(500), 0)
        self.assertEqual(unrolled(web, doubling(500), 2), [(2, None)])

    def test_returned_lists_are_new(self):
        unrolled(WEB, PLAN, 0).clear()
        self.assertEqual(len(unrolled(WEB, PLAN, 0)), 5)


class DataOf(unittest.TestCase):
    def test_by_hand(self):
        self.assertEqual([table.counts() for table in data_of(WEB, unrolled(WEB, PLAN, 0))],
                         [[((0,), 1)], [((0, 0), 1)], [((0, 0), 1), ((0, 1), 1)], [((0, 0, 0), 1)]])
        self.assertEqual([table.rows() for table in data_of(PATH, [(1, None)])], [[], [(0, 0)]])
        self.assertEqual([table.rows() for table in data_of(((), ("a",)), ((1, None), (0, 0), (1, 1)))],
                         [[()], [(0,), (1,)]])

    def test_each_different_row_once(self):
        tree = [(0, None), (1, 0), (1, 0)]
        self.assertEqual([table.counts() for table in data_of((AB, ("b",)), tree)], [[((0, 0), 1)], [((0,), 1)]])

    def test_values_that_no_node_ahead_has_at_the_column(self):
        tree = [(0, None), (1, 0), (0, 1), (1, 2), (1, 0)]
        self.assertEqual([table.rows() for table in data_of(PATH, tree)],
                         [[(0, 0), (1, 0)], [(0, 0), (0, 1), (0, 2)]])

    def test_drawn(self):
        rng = drawn(342)
        for n in range(100):
            web = cored_web(rng) if n % 2 else drawn_web(rng)
            plan, x = trees_within_reach(rng, web, 60)
            tree = tree_list(web, plan, x)
            rows = rows_of_nodes(web, tree)
            family = data_of(web, unrolled(web, plan, x))
            self.assertIsInstance(family, list)
            self.assertIsNone(check_family(web, family))
            for y in range(len(web)):
                told = sorted({rows[k] for k in range(len(tree)) if tree[k][0] == y})
                self.assertEqual(family[y].counts(), [(row, 1) for row in told])

    def test_the_tree_does_not_change(self):
        tree = unrolled(WEB, PLAN, 0)
        data_of(WEB, tree)
        self.assertEqual(tree, unrolled(WEB, PLAN, 0))


class JudgePlan(unittest.TestCase):
    def test_by_hand(self):
        self.assertEqual(judge_plan(WEB, PLAN, 0), ("clean", (0, 4, 2, 1)))
        told = judge_plan(WEB, PLAN[:2], 0)
        self.assertEqual(told, ("data", data_of(WEB, unrolled(WEB, PLAN[:2], 0))))
        self.assertIsInstance(told[1], list)
        self.assertEqual(judge_plan((AB,), (), 0), ("clean", (0,)))
        self.assertEqual(judge_plan(((), ()), (), 1)[0], "data")
        self.assertEqual(judge_plan(((), ()), ((1, 0),), 1), ("clean", (1, 0)))

    def test_0_for_x_though_another_node_has_its_row(self):
        plan = ((1, 0), (0, 1))
        self.assertEqual(unrolled((AB, AB), plan, 0), [(0, None), (1, 0), (0, 1)])
        self.assertEqual(judge_plan((AB, AB), plan, 0), ("clean", (0, 1)))
        self.assertEqual(judge_plan((AB, AB), plan, 1), ("clean", (1, 0)))

    def test_the_least_place_of_a_row(self):
        plan = ((0, 1), (0, 1), (0, 2), (0, 1))
        self.assertEqual(judge_plan((AB, ("b",), ("a",)), plan, 0), ("clean", (0, 1, 3)))

    def test_the_first_of_all_tuples(self):
        rng = drawn(343)
        told = {"clean": 0, "data": 0}
        for n in range(300):
            web = cored_web(rng, "abcde") if n % 4 == 0 else drawn_web(rng, most_headings=4, most_columns=4, widest=3)
            plan, x = trees_within_reach(rng, web, 16)
            if len(web) > 5:
                continue
            tree = tree_list(web, plan, x)
            word, paper = judge_plan(web, plan, x)
            nodes = first_nodes(web, tree, x)
            self.assertEqual((word, paper), ("data", data_of(web, tree)) if nodes is None else ("clean", nodes))
            told[word] += 1
        self.assertGreater(min(told.values()), 40)

    def test_full_plans_clean_every_table(self):
        rng = drawn(344)
        for _ in range(60):
            web = folding_web(rng, most_headings=4)
            for x in range(len(web)):
                self.assertEqual(judge_plan(web, full_plan(web), x)[0], "clean")

    def test_what_it_tells_is_so_for_families(self):
        rng = drawn(345)
        for n in range(120):
            web = cored_web(rng, "abcde") if n % 4 == 0 else drawn_web(rng, most_headings=4, most_columns=4, widest=3)
            plan, x = trees_within_reach(rng, web, 60)
            word, paper = judge_plan(web, plan, x)
            if word == "data":
                self.assertIs(is_clean(web, done(web, paper, plan), x), False)
                continue
            for _ in range(5):
                family = drawn_family(rng, web, rows=5)
                self.assertIs(is_clean(web, done(web, family, plan), x), True)

    def test_no_plan_cleans_a_core(self):
        rng = drawn(346)
        for _ in range(40):
            web = cored_web(rng)
            plan, x = trees_within_reach(rng, web, 60)
            if not is_clean(web, broken(web), x):
                self.assertEqual(judge_plan(web, plan, x)[0], "data")

    def test_papers_are_new(self):
        paper = judge_plan(WEB, PLAN[:2], 0)[1]
        paper.clear()
        self.assertEqual(len(judge_plan(WEB, PLAN[:2], 0)[1]), 4)

    def test_too_many(self):
        raised(TooMany, judge_plan, PATH, doubling(12), 0)


class JudgePaper(unittest.TestCase):
    def test_what_judge_plan_tells(self):
        rng = drawn(347)
        told = {"clean": 0, "data": 0}
        for n in range(150):
            web = cored_web(rng) if n % 3 == 0 else drawn_web(rng, most_headings=4, most_columns=5, widest=3)
            plan, x = trees_within_reach(rng, web, 60)
            paper = judge_plan(web, plan, x)
            self.assertIsNone(judge_paper(web, plan, x, paper))
            if paper[0] == "data":
                self.assertIsNone(judge_paper(web, plan, x, ("data", tuple(paper[1]))))
            told[paper[0]] += 1
        self.assertGreater(min(told.values()), 20)

    def test_clean_by_hand(self):
        self.assertIsNone(judge_paper(WEB, PLAN, 0, ("clean", (0, 4, 2, 1))))
        self.assertEqual(judge_paper(WEB, PLAN, 0, ("clean", (0, 4, 3, 1))), ("apart", 2, 3))
        self.assertEqual(judge_paper(WEB, PLAN, 0, ("clean", (0, 3, 2, 1))), ("node", 1))

    def test_nodes(self):
        for nodes, k in [((0, 4, 2, -4), 3), ((0, -1, 2, 1), 1), ((0, 4, 2, 5), 3), ((-5, 4, 2, 1), 0), ((1, 4, 2, 1), 0),
                         ((0, 10 ** 40 - 1, 2, 1), 1), ((0, 4, 1, 2), 2), ((5, 5, 5, 5), 0), ((0, 2, 2, 9), 1)]:
            self.assertEqual(judge_paper(WEB, PLAN, 0, ("clean", nodes)), ("node", k), nodes)

    def test_0_for_x(self):
        plan = ((1, 0), (0, 1))
        self.assertEqual(judge_paper((AB, AB), plan, 0, ("clean", (2, 1))), ("node", 0))
        self.assertIsNone(judge_paper((AB, AB), plan, 0, ("clean", (0, 1))))
        self.assertEqual(judge_paper((AB, AB), plan, 1, ("clean", (0, 1))), ("node", 0))
        self.assertIsNone(judge_paper((AB, AB), plan, 1, ("clean", (1, 0))))

    def test_another_right_tuple_is_right(self):
        plan = ((0, 1), (0, 1))
        for place in (1, 2):
            self.assertIsNone(judge_paper((AB, ("b",)), plan, 0, ("clean", (0, place))))

    def test_node_comes_ahead_of_apart_and_the_least_pair_first(self):
        web, plan = (("a",), ("a", "b"), ("b",), ("b", "c")), ((0, 1), (0, 1), (0, 2), (0, 3))
        self.assertEqual(unrolled(web, plan, 0), [(0, None), (1, 0), (1, 0), (2, 0), (3, 0)])
        self.assertEqual(judge_paper(web, plan, 0, ("clean", (0, 1, 3, 4))), ("apart", 1, 2))
        self.assertEqual(judge_paper(web, plan, 0, ("clean", (0, 2, 3, 4))), ("apart", 1, 2))
        self.assertEqual(judge_paper(web, plan, 0, ("clean", (0, 2, 3, 3))), ("node", 3))
        order = (("b",), ("a", "b"), ("a",), ("b", "c"))
        turned = ((2, 1), (2, 1), (2, 0), (2, 3))
        self.assertEqual(judge_paper(order, turned, 2, ("clean", (3, 1, 0, 4))), ("apart", 0, 1))

    def test_data(self):
        plan = ((0, 1),)
        web = (AB, BC, ("c", "d"))
        self.assertEqual(judge_plan(web, plan, 0)[0], "data")
        clean = [ones(AB, (0, 0)), ones(BC, (0, 0)), ones(("c", "d"), (0, 0))]
        self.assertEqual(judge_paper(web, plan, 0, ("data", clean)), ("clean",))
        self.assertEqual(judge_paper(web, plan, 0, ("data", [Table(heading, []) for heading in web])), ("clean",))
        unclean = [ones(AB, (0, 0)), ones(BC, (0, 0)), ones(("c", "d"), (1, 0))]
        self.assertIsNone(judge_paper(web, plan, 0, ("data", unclean)))
        self.assertIsNone(judge_paper(web, plan, 0, ("data", tuple(unclean))))
        # Behind the plan the row that went with no other one has left.
        self.assertEqual(judge_paper(PATH, plan, 0, ("data", [ones(AB, (0, 5)), ones(BC, (0, 0))])), ("clean",))
        self.assertIsNone(judge_paper(PATH, (), 0, ("data", [ones(AB, (0, 5)), ones(BC, (0, 0))])))

    def test_data_with_counts(self):
        table = Table(AB, [((0, 5), 10 ** 30 - 1)])
        self.assertIsNone(judge_paper(PATH, (), 0, ("data", [table, ones(BC, (0, 0))])))

    def test_form(self):
        nodes, family = (0, 1), [ones(AB, (0, 5)), ones(BC, (0, 0))]
        wrong = [("clean", [0, 1]), ["clean", nodes], ("clean", (0,)), ("clean", (0, 1, 1)), ("clean", (0, True)),
                 ("clean", (False, 1)), ("clean", (0, "1")), ("clean", (0, None)), ("clean", nodes, 1), ("clean",),
                 ("cleans", nodes), ("data", family[:1]), ("data", family + family[:1]), ("data", family[::-1]),
                 ["data", family], ("data", family, family), ("data", {0: family[0], 1: family[1]}), ("data", nodes),
                 ("data", [family[0], None]), ("data", family[0]), (family, "data"), ("Data", family), ("data",),
                 ("data", [family[0], family[1].counts()]), (True, nodes), ("clean", family), ("clean", {0: 0, 1: 1})]
        for value in wrong + any_values():
            self.assertEqual(judge_paper(PATH, ((0, 1),), 0, value), ("form",), value)
        for value in any_values() + [("clean", nodes), ("data", family)]:
            self.assertEqual(judge_paper(SHELL, ((0, 1),), 0, value), ("form",), value)

    def test_too_many_comes_ahead_of_all_else(self):
        family = [ones(AB, (0, 5)), ones(BC, (0, 0))]
        for value in any_values() + [("clean", (0, 1)), ("data", family), ("clean", (5, 5))]:
            raised(TooMany, judge_paper, PATH, doubling(12), 0, value)

    def test_nothing_changes(self):
        family = [ones(AB, (0, 5)), ones(BC, (0, 0))]
        value = ("data", family)
        judge_paper(PATH, ((0, 1), (1, 0)), 0, value)
        self.assertEqual(value, ("data", [ones(AB, (0, 5)), ones(BC, (0, 0))]))

    def test_broken_families_show_it_of_every_plan(self):
        rng = drawn(348)
        for web in (RING, SHELL):
            for _ in range(10):
                plan, x = trees_within_reach(rng, web, 60)
                self.assertIsNone(judge_paper(web, plan, x, ("data", broken(web))))


class LongPlans(unittest.TestCase):
    def test_plans_of_twelve_steps(self):
        rng = drawn(349)
        seen = 0
        while seen < 40:
            web = cored_web(rng) if seen % 2 else folding_web(rng, most_headings=7, most_columns=8)
            if len(web) < 3:
                continue
            plan = tuple([tuple(rng.sample(range(len(web)), 2)) for _ in range(12)])
            x = rng.randrange(len(web))
            if 20 <= len(tree_list(web, plan, x)) <= 60:
                paper = judge_plan(web, plan, x)
                self.assertIsNone(judge_paper(web, plan, x, paper))
                seen += 1

    def test_a_chain_there_and_back(self):
        plan = full_plan(CHAIN)
        self.assertEqual([judge_plan(CHAIN, plan, x)[0] for x in range(3)], ["clean"] * 3)
        self.assertEqual([judge_plan(CHAIN, plan[:2], x)[0] for x in range(3)], ["data", "data", "clean"])


if __name__ == "__main__":
    unittest.main()
