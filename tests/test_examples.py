"""The interface's examples, as they stand in the document."""

import doctest
import unittest
from pathlib import Path

from agreetwo.bounds import bounds_over, greatest, least, whole_with
from agreetwo.broken import broken, core_rows, lots_of
from agreetwo.console import Console
from agreetwo.cores import core, core_headings, judge_core
from agreetwo.deeds import behind, deed_text, fitted, letters, read_deed, verdict, web_of
from agreetwo.ears import ears, folding, judge_folding, root
from agreetwo.errors import (BadExchange, BadFamily, BadName, BadNumber, BadRow, BadText, Cored, Disagree, Empty,
                             Folds, NoRow, NothingDone, TooFew, TooMany, Unlike)
from agreetwo.exchanges import exchanged, judge_exchanges
from agreetwo.families import check_family, disagreement, is_whole, sums
from agreetwo.follows import blocks, follows
from agreetwo.fractions import fraction, is_less, minus, multiplied, over, plus, share, shares
from agreetwo.headings import beyond, is_heading, part, shared, together
from agreetwo.house import House, came, tried, would_tell
from agreetwo.joints import join, joint
from agreetwo.leading import all_wholes, leading, two_wholes
from agreetwo.mends import breaking, cores, critical, healing
from agreetwo.orders import best_order, clean_order, filled, judge_order, least_width, made_headings, width
from agreetwo.parted import added, joins_back, parted_web, unsplit
from agreetwo.plans import data_of, judge_paper, judge_plan, unrolled
from agreetwo.products import even_whole, free, product, product_rows, product_total
from agreetwo.questions import count_join, gathered, nth, place_of, scale_led
from agreetwo.seeing import apart, chance, kept_apart, likeliest, row_at, seen
from agreetwo.splits import has_split, is_split, lacking, must_split, other_side, splits_of
from agreetwo.steps import done, full_plan, is_clean, leaving
from agreetwo.sure import is_settled, judge_unlike, open_rows, spoiled, surely, two_unlike
from agreetwo.tables import Table, agree, meet, summed, support
from agreetwo.tabletexts import read_table, table_text
from agreetwo.trees import is_folding_tree, judge_tree, parts, seam, seams, tree_of
from agreetwo.webchanges import glued, renamed, with_heading, without_column, without_heading
from agreetwo.webs import columns_of, cut, is_web, largest
from agreetwo.wholes import bound, lost, whole, whole_by, whole_set
from tests.support import raised

AB, BC = ("a", "b"), ("b", "c")
LEFT = Table(AB, [((0, 1), 3), ((2, 2), 1), ((0, 1), 2)])
RIGHT = Table(BC, [((1, 0), 4), ((1, 5), 1), ((2, 0), 1)])
CHAIN, RING = (("a", "b"), ("b", "c"), ("c", "d")), (("a", "b"), ("b", "c"), ("c", "d"), ("a", "d"))
SHELL = (("a", "b"), ("a", "c"), ("b", "c"))
PAIR = PATH = (("a", "b"), ("b", "c"))
ABC = ("a", "b", "c")
TWO = (Table(("a", "b"), [((0, 0), 2), ((1, 0), 1), ((1, 1), 1)]),
       Table(("b", "c"), [((0, 0), 1), ((0, 1), 2), ((1, 1), 1)]))


class StageOne(unittest.TestCase):
    def test_errors(self):
        self.assertEqual([Disagree(0, 1, (2,)).row, NoRow(5).row, TooMany().called], [(2,), 5, "TooMany"])

    def test_headings(self):
        self.assertEqual(
            [is_heading(AB), is_heading(("b", "a")), shared(AB, BC), together(AB, BC), beyond(AB, BC),
             part(AB, (7, 2), BC)],
            [True, False, ("b",), ("a", "b", "c"), ("a",), (2,)])

    def test_tables(self):
        self.assertEqual(
            [LEFT.counts(), LEFT.times((0, 1)), LEFT.total(), len(LEFT), (0, 2) in LEFT, [row for row in RIGHT]],
            [[((0, 1), 5), ((2, 2), 1)], 5, 6, 2, False, [(1, 0), (1, 5), (2, 0)]])
        self.assertEqual(
            [(LEFT + LEFT).total(), (2 * LEFT - LEFT) == LEFT, summed(RIGHT, AB).counts(), agree(LEFT, RIGHT),
             agree(LEFT, RIGHT * 2)],
            [12, True, [((1,), 5), ((2,), 1)], None, (1,)])
        self.assertEqual([meet(LEFT, RIGHT * 2), support(LEFT).counts()], [None, [((0, 1), 1), ((2, 2), 1)]])
        self.assertEqual(raised(TooFew, lambda: LEFT - 2 * LEFT).row, (0, 1))

    def test_joints(self):
        self.assertEqual(
            [joint(LEFT, RIGHT).counts(), join([LEFT, RIGHT]).rows()],
            [[((0, 1, 0), 4), ((0, 1, 5), 1), ((2, 2, 0), 1)], [(0, 1, 0), (0, 1, 5), (2, 2, 0)]])

    def test_tabletexts(self):
        self.assertEqual(
            [table_text(LEFT), table_text(Table((), [((), 5)])), read_table("[a b] (0 1) 5 (2 2) 1") == LEFT],
            ["[a b] (0 1) 5 (2 2) 1", "[] () 5", True])
        self.assertEqual(raised(BadText, read_table, "[a b] (0) 1").place, 8)
        self.assertEqual(raised(BadRow, read_table, "[a] (0) 1 (0) 2").number, 1)


class StageTwo(unittest.TestCase):
    def test_webs(self):
        self.assertEqual(
            [is_web(CHAIN), is_web(()), columns_of(RING), cut(CHAIN, ("b", "d")), largest(cut(CHAIN, ("b", "d")))],
            [True, False, ("a", "b", "c", "d"), (("b",), ("b",), ("d",)), [0, 2]])

    def test_ears(self):
        self.assertEqual(
            [ears(CHAIN, (0, 1, 2)), folding(CHAIN), root(CHAIN, ((0, 1), (1, 2))), folding(RING), folding(SHELL)],
            [[(0, 1), (2, 1)], ((0, 1), (1, 2)), 2, None, None])
        self.assertEqual(
            [judge_folding(CHAIN, ((2, 1), (1, 0))), judge_folding(CHAIN, ((1, 0), (0, 2))),
             judge_folding(CHAIN, ((0, 1),))],
            [None, ("ear", 0), ("form",)])

    def test_trees(self):
        self.assertEqual(
            [tree_of(((2, 1), (1, 0))), judge_tree(RING, ((0, 1), (0, 3), (1, 3))), seam(CHAIN, 0, 2),
             seams(CHAIN, ((0, 1), (1, 2)))],
            [((0, 1), (1, 2)), ("ring", 2), (), [("b",), ("c",)]])
        self.assertEqual(
            [parts(RING, ((0, 1), (1, 2), (2, 3)), "a"), is_folding_tree(CHAIN, ((0, 1), (1, 2))),
             is_folding_tree(CHAIN, ((0, 1), (0, 2)))],
            [2, True, False])

    def test_cores(self):
        self.assertEqual(
            [core(CHAIN), core(RING), core(SHELL), core_headings(core(SHELL))],
            [None, ("ring", ("a", "b", "c", "d")), ("shell", ("a", "b", "c")), [("b", "c"), ("a", "c"), ("a", "b")]])
        self.assertEqual(
            [judge_core(RING, ("ring", ("a", "c", "b", "d"))), judge_core(SHELL[:2], ("shell", ("a", "b", "c")))],
            [("cut", 0), ("lacks", ("b", "c"))])
        self.assertEqual(core((("a", "c"), ("b", "c"), ("b", "d"), ("a", "d"))), ("ring", ("a", "c", "b", "d")))

    def test_families(self):
        self.assertEqual(
            [check_family(PAIR, [LEFT, RIGHT]), disagreement(PAIR, [LEFT, RIGHT]),
             disagreement(PAIR, [LEFT, RIGHT * 2])],
            [None, None, (0, 1, (1,))])
        self.assertEqual(
            [is_whole(PAIR, [LEFT, RIGHT], joint(LEFT, RIGHT)), sums(PAIR, joint(LEFT, RIGHT)) == [LEFT, RIGHT]],
            [True, True])
        self.assertEqual(raised(BadFamily, check_family, PAIR, [LEFT, LEFT]).number, 1)


class StageThree(unittest.TestCase):
    def test_wholes(self):
        self.assertEqual(
            [whole(PAIR, [LEFT, RIGHT]).counts(), bound(PAIR, [LEFT, RIGHT]), lost(PAIR, [LEFT, RIGHT])],
            [[((0, 1, 0), 4), ((0, 1, 5), 1), ((2, 2, 0), 1)], 3, None])
        self.assertEqual(
            [whole_by(PAIR, [LEFT, RIGHT], ((1, 0),)) == joint(LEFT, RIGHT),
             whole_set(PAIR, [LEFT, RIGHT * 2]).rows()],
            [True, [(0, 1, 0), (0, 1, 5), (2, 2, 0)]])
        error = raised(Disagree, whole, PAIR, [LEFT, RIGHT * 2])
        self.assertEqual((error.one, error.other, error.row), (0, 1, (1,)))

    def test_broken(self):
        self.assertEqual(
            [lots_of(RING), core_rows(RING, "unit"), core_rows(RING, "even")],
            [[("a",), ("b",), ("c", "d")], [(0, 0, 1, 1), (0, 1, 0, 0), (1, 0, 0, 0)],
             [(0, 0, 0, 0), (0, 1, 1, 1), (1, 0, 1, 1), (1, 1, 0, 0)]])
        self.assertEqual([table.rows() for table in broken(RING)],
                         [[(0, 1), (1, 0)], [(0, 1), (1, 0)], [(0, 0), (1, 1)], [(0, 1), (1, 0)]])
        self.assertEqual(
            [disagreement(RING, broken(RING)), lost(RING, broken(RING)), [table.rows() for table in broken(SHELL)]],
            [None, (0, (0, 1)), [[(0, 1), (1, 0)], [(0, 1), (1, 0)], [(0, 1), (1, 0)]]])
        self.assertEqual(raised(Cored, whole, RING, broken(RING)).core, ("ring", ("a", "b", "c", "d")))
        self.assertEqual(raised(Folds, broken, PAIR).pairs, ((0, 1),))


class StageFour(unittest.TestCase):
    def test_steps(self):
        pair = (Table(("a", "b"), [((0, 0), 2), ((1, 5), 1)]), Table(("b", "c"), [((0, 7), 1)]))
        self.assertEqual(
            [full_plan(PATH), is_clean(PATH, pair, 0), is_clean(PATH, pair, 1), leaving(PATH, pair, ((1, 0), (0, 1)))],
            [((1, 0), (0, 1)), False, True, [0, 1]])
        self.assertEqual(done(PATH, pair, ((0, 1),))[0].counts(), [((0, 0), 2)])

    def test_plans(self):
        web, plan = (("a",), ("a", "w"), ("a", "e"), ("a", "e", "g")), ((3, 2), (0, 3), (2, 1), (0, 2))
        self.assertEqual(unrolled(web, plan, 0), [(0, None), (3, 0), (2, 1), (2, 0), (1, 3)])
        self.assertEqual([table.rows() for table in data_of(web, unrolled(web, plan, 0))],
                         [[(0,)], [(0, 0)], [(0, 0), (0, 1)], [(0, 0, 0)]])
        self.assertEqual([judge_plan(web, plan, 0), judge_paper(web, plan, 0, ("clean", (0, 4, 3, 1)))],
                         [("clean", (0, 4, 2, 1)), ("apart", 2, 3)])
        self.assertEqual([judge_plan(web, plan[:2], 0)[0], judge_paper(web, plan, 0, ("clean", (0, 3, 2, 1)))],
                         ["data", ("node", 1)])

    def test_questions(self):
        two = (Table(("a", "b"), [((0, 0), 2), ((1, 0), 3)]),
               Table(("b", "c"), [((0, 7), 4), ((0, 8), 1), ((9, 9), 1)]))
        self.assertEqual(
            [count_join(PATH, two), scale_led(PATH, two, "sum"), scale_led(PATH, two, "least"),
             scale_led(PATH, two, "greatest")],
            [4, 25, 3, 7])
        self.assertEqual([nth(PATH, two, 1), place_of(PATH, two, (1, 0, 7)), gathered(PATH, two)],
                         [(0, 0, 8), 2, [2, 4]])
        self.assertEqual(raised(NoRow, nth, PATH, two, -1).row, -1)


class StageFive(unittest.TestCase):
    def test_fractions(self):
        self.assertEqual(
            [fraction(4, -6), plus((1, 2), (1, 3)), minus((1, 3), (1, 2)), multiplied((2, 3), (3, 4)),
             over((1, 2), (1, 4)), is_less((1, 3), (1, 2))],
            [(-2, 3), (5, 6), (-1, 6), (1, 2), (2, 1), True])
        coin = Table(("a",), [((0,), 3), ((1,), 1)])
        self.assertEqual([share(coin, (0,)), share(coin, (7,)), shares(coin)],
                         [(3, 4), (0, 1), [((0,), (3, 4)), ((1,), (1, 4))]])
        self.assertEqual(raised(BadNumber, over, (1, 2), (0, 1)).number, (0, 1))

    def test_products(self):
        self.assertEqual(
            [product(PATH, ((0, 1),), TWO, (0, 0, 1)), product(PATH, ((0, 1),), TWO, (0, 1, 1)),
             product_total(PATH, ((0, 1),), TWO)],
            [(1, 3), (0, 1), (1, 1)])
        n, table = even_whole(PATH, TWO)
        self.assertEqual(
            [n, table.counts()],
            [3, [((0, 0, 0), 2), ((0, 0, 1), 4), ((1, 0, 0), 1), ((1, 0, 1), 2), ((1, 1, 1), 3)]])
        columns = ("a", "b", "c")
        self.assertEqual(
            [free(SHELL, columns)[0].counts()[0], product_total(SHELL, ((0, 1), (1, 2)), free(SHELL, columns))],
            [((0, 0), 2), (1, 2)])
        self.assertEqual(product_rows(PATH, ((0, 1),), TWO)[:2], [((0, 0, 0), (1, 6)), ((0, 0, 1), (1, 3))])

    def test_seeing(self):
        self.assertEqual(
            [chance(PATH, TWO, {}), chance(PATH, TWO, {"c": 1}), seen(PATH, TWO, {"c": 1}, "a"),
             likeliest(PATH, TWO, {"a": 1})],
            [(1, 1), (3, 4), {0: (4, 9), 1: (5, 9)}, ((1, 1, 1), (1, 4))])
        self.assertEqual([row_at(PATH, TWO, (0, 1)), row_at(PATH, TWO, (1, 6)), row_at(PATH, TWO, (99, 100))],
                         [(0, 0, 0), (0, 0, 1), (1, 1, 1)])
        same = Table(("a", "b"), [((0, 0), 1), ((1, 1), 1)])
        self.assertEqual(
            [apart(same, ("a",), ("b",), ()), apart(Table(("a", "b"), [((0, 0), 1), ((0, 1), 2)]), ("a",), ("b",), ())],
            [(0, 0), None])
        self.assertEqual(
            [kept_apart(PATH, ("a",), ("c",), ("b",)),
             [one.counts() for one in kept_apart(PATH, ("a",), ("c",), ())]],
            [None, [[((0, 0), 1), ((1, 1), 1)], [((0, 0), 1), ((1, 1), 1)]]])
        raised(Empty, seen, PATH, TWO, {"c": 9}, "a")
        self.assertEqual(raised(BadNumber, row_at, PATH, TWO, (1, 1)).number, (1, 1))


class StageSix(unittest.TestCase):
    def test_splits(self):
        three = Table(ABC, [((0, 0, 0), 1), ((0, 1, 1), 2), ((1, 5, 7), 1)])
        self.assertEqual(
            [is_split(ABC, (("a",), ("b",))), is_split(ABC, (("a",), ("b", "c"))), other_side(ABC, (("a",), ("b",)))],
            [True, False, (("a",), ("c",))])
        self.assertEqual(
            [lacking(three, (("a",), ("b",))), has_split(three, (("b",), ("a",))), has_split(three, (("c",), ("b",)))],
            [(0, 0, 1), True, True])
        self.assertEqual(
            [must_split(CHAIN, (("b",), ("a",))), must_split(CHAIN, (("b",), ("c",))), splits_of(CHAIN)],
            [True, False, [(("b",), ("a",)), (("c",), ("a", "b"))]])

    def test_follows(self):
        heading, told = ("a", "b", "c", "d"), [(("a",), ("b",)), (("c",), ("d",))]
        self.assertEqual(
            [blocks(heading, told, ("a",)), blocks(heading, told, ("c",)), blocks(heading, told, ("a", "c")),
             blocks(ABC, [], ABC)],
            [[("b",), ("c", "d")], [("a", "b"), ("d",)], [("b",), ("d",)], []])
        self.assertEqual(blocks(heading, [(("a",), ("b",)), (("b",), ("c",))], ("a",)), [("b",), ("c",), ("d",)])
        self.assertEqual(
            [follows(heading, told, (("a", "c"), ("b",))), follows(heading, told, (("a",), ("c",))).rows()],
            [None, [(0, 0, 0, 0), (0, 0, 1, 1), (0, 1, 0, 0), (0, 1, 1, 1)]])


    def test_parted(self):
        abcd, told = ("a", "b", "c", "d"), [(("a",), ("b",)), (("c",), ("d",))]
        three = Table(ABC, [((0, 0, 0), 1), ((0, 1, 1), 2), ((1, 5, 7), 1)])
        self.assertEqual([parted_web(abcd, told), parted_web(ABC, [])],
                         [(("a", "b"), ("c", "d"), ("a", "c")), (("a", "b", "c"),)])
        self.assertEqual([joins_back((("a", "b"), ("b", "c")), three), added((("a", "b"), ("a", "c")), three)],
                         [True, (0, 0, 1)])
        self.assertEqual(
            [unsplit(SHELL).rows(), joins_back(SHELL, unsplit(SHELL)), added(SHELL, unsplit(SHELL))],
            [[(0, 0, 0), (0, 1, 1), (1, 0, 1), (1, 1, 0)], False, (0, 0, 1)])
        self.assertEqual(raised(Folds, unsplit, CHAIN).pairs, ((0, 1), (1, 2)))


class StageSeven(unittest.TestCase):
    def test_bounds(self):
        self.assertEqual([least(PATH, TWO, (0, 0, 1)), greatest(PATH, TWO, (0, 0, 1)), least(PATH, TWO, (0, 0, 0))],
                         [1, 2, 0])
        self.assertEqual(whole_with(PATH, TWO, (0, 0, 1), 1).counts(),
                         [((0, 0, 0), 1), ((0, 0, 1), 1), ((1, 0, 1), 1), ((1, 1, 1), 1)])
        self.assertEqual([bounds_over(PATH, TWO, (0,), (0, 0)), bounds_over(PATH, TWO, (0, 1), (0, 0, 1))],
                         [(2, 2), (1, 2)])

    def test_sure(self):
        self.assertEqual(surely(PATH, TWO), [((0, 0, 1), 1), ((1, 1, 1), 1)])
        self.assertEqual(open_rows(PATH, TWO),
                         [((0, 0, 0), 0, 1), ((0, 0, 1), 1, 2), ((1, 0, 0), 0, 1), ((1, 0, 1), 0, 1)])
        paper = two_unlike(PATH, TWO)
        self.assertEqual(
            [is_settled(PATH, TWO), judge_unlike(PATH, TWO, paper), judge_unlike(PATH, TWO, paper[:1] * 2)],
            [False, None, ("same",)])
        self.assertEqual(judge_unlike(PATH, TWO, (paper[0], paper[1] * 2)), ("sum", 1, 0, (0, 0)))
        family, row = spoiled((("a", "b"), ("a", "c"), ("b", "c")))
        self.assertEqual([family[0].counts(), row], [[((0, 0), 1), ((0, 1), 1), ((1, 0), 1)], (0, 0, 0)])


class StageEight(unittest.TestCase):
    def test_exchanges(self):
        two = Table(ABC, [((0, 5, 0), 3), ((1, 5, 1), 2)])
        self.assertEqual(exchanged(PATH, two, ((0, 5, 0), (1, 5, 1), ("a",), 2)).counts(),
                         [((0, 5, 0), 1), ((0, 5, 1), 2), ((1, 5, 0), 2)])
        error = raised(BadExchange, exchanged, PATH, two, ((0, 5, 0), (1, 5, 1), ("a", "c"), 1))
        self.assertIsNone(error.number)
        error = raised(TooFew, exchanged, PATH, two, ((0, 5, 0), (1, 5, 1), ("a",), 3))
        self.assertEqual(error.row, (1, 5, 1))
        table = Table(ABC, [((0, 5, 0), 1), ((1, 6, 1), 1)])
        error = raised(BadExchange, exchanged, PATH, table, ((0, 5, 0), (1, 6, 1), ("a",), 1))
        self.assertEqual(error.number, 0)
        self.assertEqual(
            [judge_exchanges(PATH, two, (), two), judge_exchanges(PATH, two, (("a",),), two),
             judge_exchanges(PATH, two, (), Table(ABC, []))],
            [None, ("form", 0), ("end",)])

    def test_leading(self):
        one = Table(ABC, [((0, 5, 0), 1), ((1, 5, 1), 1)])
        other = Table(ABC, [((0, 5, 1), 1), ((1, 5, 0), 1)])
        self.assertIsNone(judge_exchanges(PATH, one, leading(PATH, one, other), other))
        pair = (Table(("a", "b"), [((0, 5), 1), ((1, 5), 1)]), Table(("b", "c"), [((5, 0), 1), ((5, 1), 1)]))
        self.assertEqual(all_wholes(PATH, pair), [one, other])
        self.assertEqual(
            [table.rows() for table in two_wholes((("a", "b"), ("b", "c"), ("a", "c")))],
            [[(0, 0, 0), (0, 1, 1), (1, 0, 1), (1, 1, 0)], [(0, 0, 1), (0, 1, 0), (1, 0, 0), (1, 1, 1)]])
        self.assertEqual(raised(Unlike, leading, PATH, one, Table(ABC, [((0, 5, 1), 2)])).number, 0)


class StageNine(unittest.TestCase):
    def test_webchanges(self):
        self.assertEqual(
            [with_heading(PAIR, ("a",)), without_heading(RING, 3) == CHAIN, without_column(SHELL, "b")],
            [(("a", "b"), ("b", "c"), ("a",)), True, (("a",), ("a", "c"), ("c",))])
        self.assertEqual([renamed(PAIR, {"a": "c", "c": "a"}), glued(PAIR, (("c", "d"), ("b", "c")), 1, 1)],
                         [(("b", "c"), ("a", "b")), (("a", "b"), ("b", "c"), ("c", "d"))])
        self.assertEqual(raised(BadName, renamed, PAIR, {"a": "c"}).name, "c")

    def test_mends(self):
        both = (("a", "b"), ("b", "c"), ("a", "c"), ("c", "d"), ("d", "e"), ("c", "e"))
        self.assertEqual(
            [cores(both), critical(both), breaking(both), breaking(RING)],
            [[("shell", ("a", "b", "c")), ("shell", ("c", "d", "e"))], ("c",), [], [0, 1, 2, 3]])
        self.assertEqual([healing(RING), healing(SHELL), healing(CHAIN), healing(both)],
                         [("a", "b", "c", "d"), ("a", "b", "c"), (), ("a", "b", "c", "d", "e")])

    def test_orders(self):
        order = ("a", "b", "c", "d")
        self.assertEqual(made_headings(RING, order), [("a", "b", "d"), ("b", "c", "d"), ("c", "d"), ("d",)])
        self.assertEqual([width(RING, order), filled(RING, order), judge_order(RING, order)],
                         [3, (("a", "b", "d"), ("b", "c", "d")), ("grows", 0)])
        self.assertEqual(
            [clean_order(CHAIN), clean_order(SHELL), least_width(SHELL), best_order(RING),
             judge_order(CHAIN, ("b", "a"))],
            [("a", "b", "c", "d"), None, 3, ("a", "b", "c", "d"), ("form",)])


class StageTen(unittest.TestCase):
    def test_deeds(self):
        state = behind(behind({}, ("holder", "left", ("a", "b"))), ("holder", "right", ("b", "c")))
        state = behind(behind(state, ("put", "left", (0, 1), 2)), ("put", "right", (1, 5), 3))
        self.assertEqual(
            [web_of(state), verdict({}), verdict(state), letters(state)],
            [(("a", "b"), ("b", "c")), ("empty",), ("apart", "left", "right", (1,)), [("fit", "right", "left")]])
        some = Table(("b", "c"), [((1, 5), 3), ((1, 7), 2), ((2, 0), 4)])
        self.assertEqual(fitted(Table(("a", "b"), [((0, 1), 4), ((0, 3), 1)]), some).counts(),
                         [((1, 5), 3), ((1, 7), 1), ((3, 0), 1)])
        self.assertEqual(verdict(behind(state, ("fit", "right", "left")))[1].counts(), [((0, 1, 5), 3)])
        self.assertEqual(behind(state, ("rename", "b", "z"))["right"].counts(), [((5, 1), 3)])
        self.assertEqual(
            [deed_text(("put", "left", (0, 1), 2)), deed_text(("holder", "far", ())), read_deed("fit right left")],
            ["put left (0 1) 2", "holder far []", ("fit", "right", "left")])
        self.assertEqual(raised(TooFew, behind, state, ("take", "left", (0, 1), 3)).row, (0, 1))

    def test_house(self):
        house = House()
        numbers = tried(house, [("holder", "left", ("a", "b")), ("put", "left", (0, 1), 3)])
        self.assertEqual(
            [numbers, house.branch("side"), house.do(("put", "left", (7, 1), 1)), house.go("side"),
             house.do(("take", "left", (0, 1), 1))],
            [[1, 2], None, 3, 2, 4])
        self.assertEqual(
            [house.merge("main"), house.state()["left"].counts(), house.trail("side"), house.log()[4]],
            [5, [((0, 1), 2), ((7, 1), 1)], [0, 1, 2, 4, 5], ((4, 3), None)])
        self.assertEqual([one.counts() for one in came(house, 2, 5)["left"]], [[((0, 1), 1)], [((7, 1), 1)]])
        self.assertEqual([would_tell(house, [("leave", "left")]), house.undo(), len(house)], [("empty",), 4, 6])
        raised(NothingDone, House().undo)

    def test_console(self):
        desk = Console()
        lines = ["holder left [a b]", "put left (0 1) 3", "holder right [b c]", "tell", "letters", "fit left right"]
        self.assertEqual([desk.say(line) for line in lines], ["1", "2", "3", "apart", "fit right left", "4"])
        lines = ["tell", "show right", "show", "at 1", "leave far", "put left", "undo"]
        self.assertEqual([desk.say(line) for line in lines],
                         ["whole", "[b c] (1 0) 3", "left right", "left", "no UnknownName", "no BadText", "3"])


class Readme(unittest.TestCase):
    def test_its_examples(self):
        readme = Path(__file__).resolve().parent.parent / "README.md"
        told = doctest.testfile(str(readme), module_relative=False)
        self.assertEqual(told.failed, 0)
        self.assertGreater(told.attempted, 0)


if __name__ == "__main__":
    unittest.main()
