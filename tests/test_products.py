"""[5.3], [5.4] and [5.5]: products along trees, free families and even wholes."""

import unittest
from fractions import Fraction

from agreetwo.cores import core
from agreetwo.ears import folding
from agreetwo.errors import BadFamily, Cored, Disagree, Empty, TooMany
from agreetwo.families import disagreement, is_whole, sums
from agreetwo.products import even_whole, free, product, product_rows, product_total
from agreetwo.tables import Table
from agreetwo.trees import is_folding_tree, parts, tree_of
from agreetwo.webs import columns_of
from tests.support import (AB, BC, CHAIN, RING, SHELL, any_values, cored_web, drawn, drawn_family, drawn_web,
                           filled_family, folding_web, ones, raised)
from tests.tableways import all_headings, join_rows, pair, part_of, product_along
from tests.webways import all_foldings, all_trees

PATH, TIE = (AB, BC), ((0, 1),)
TWO = (Table(AB, [((0, 0), 2), ((1, 0), 1), ((1, 1), 1)]), Table(BC, [((0, 0), 1), ((0, 1), 2), ((1, 1), 1)]))
SEVEN = tuple([("abcdefgh"[k], "abcdefgh"[k + 1]) for k in range(7)])


def filled_tables(rng, web):
    """A family that need not agree, of tables with totals above 0."""
    while True:
        family = drawn_family(rng, web, rows=6)
        if all([table.total() > 0 for table in family]):
            return family


class Product(unittest.TestCase):
    def test_by_hand(self):
        self.assertEqual(product(PATH, TIE, TWO, (0, 0, 1)), (1, 3))
        self.assertEqual(product(PATH, TIE, list(TWO), (0, 1, 1)), (0, 1))
        self.assertEqual(product(PATH, TIE, TWO, (9, 9, 9)), (0, 1))
        self.assertEqual(product((AB,), (), TWO[:1], (0, 0)), (1, 2))
        self.assertEqual(product(((),), (), [Table((), [((), 3)])], ()), (1, 1))
        self.assertEqual(product((AB, AB), TIE, [TWO[0], TWO[0]], (0, 0)), (1, 2))
        self.assertEqual(product((("a",), ("b",)), TIE, [Table(("a",), [((0,), 1), ((1,), 2)]), ones(("b",), (0,))],
                                 (1, 0)), (2, 3))

    def test_the_lesser_number_s_table_tells_the_share_on_the_seam(self):
        family = [Table(AB, [((0, 0), 1), ((0, 1), 1)]), Table(BC, [((0, 0), 1), ((1, 0), 3)])]
        self.assertEqual(product(PATH, TIE, family, (0, 0, 0)), (1, 4))
        self.assertEqual(product(PATH[::-1], TIE, family[::-1], (0, 0, 0)), (1, 2))

    def test_drawn(self):
        rng = drawn(371)
        for n in range(120):
            web = cored_web(rng, "abcde") if n % 2 else drawn_web(rng, most_headings=4, most_columns=5, widest=3)
            if len(web) > 4:
                continue
            family = filled_family(rng, web) if n % 3 else filled_tables(rng, web)
            tree = rng.choice(all_trees(web))
            rows = join_rows(web, family)
            told = [(row, pair(product_along(web, tree, family, row))) for row in rows]
            self.assertEqual(product_rows(web, tree, family), told)
            self.assertEqual([(row, product(web, tree, family, row)) for row in rows], told)
            self.assertEqual(product_total(web, tree, family),
                             pair(sum([Fraction(*one) for _, one in told], Fraction(0))))
            for _ in range(5):
                row = tuple([rng.randint(0, 2) for _ in columns_of(web)])
                self.assertEqual(product(web, tree, family, row), dict(told).get(row, (0, 1)))

    def test_bad_families(self):
        calls = [lambda value: product(PATH, TIE, value, (0, 0, 0)), lambda value: product_rows(PATH, TIE, value),
                 lambda value: product_total(PATH, TIE, value)]
        for call in calls:
            for value in any_values():
                listed = isinstance(value, (list, tuple)) and len(value) == 2
                self.assertEqual(raised(BadFamily, call, value).number, 0 if listed else None, value)
            for value, number in [(TWO[::-1], 0), ([TWO[0], None], 1), ([TWO[0]], None), ({0: TWO[0], 1: TWO[1]}, None),
                                  ([Table(AB, []), TWO[0]], 1), ([True, Table(BC, [])], 0)]:
                self.assertEqual(raised(BadFamily, call, value).number, number)

    def test_empty(self):
        for family in ([Table(AB, []), TWO[1]], [TWO[0], Table(BC, [])], [Table(AB, []), Table(BC, [])]):
            raised(Empty, product, PATH, TIE, family, (0, 0, 0))
            raised(Empty, product, PATH, TIE, family, (9, 9, 9))
            raised(Empty, product_rows, PATH, TIE, family)
            raised(Empty, product_total, PATH, TIE, family)

    def test_empty_comes_ahead_of_too_many(self):
        web = (("a",), ("b",), ("c",))
        family = [ones(heading, *[(k,) for k in range(30)]) for heading in web[:2]]
        tree = ((0, 1), (1, 2))
        for call in (product_rows, product_total):
            raised(Empty, call, web, tree, family + [Table(("c",), [])])
            raised(TooMany, call, web, tree, family + [ones(("c",), (0,))])
        self.assertEqual(product(web, tree, family + [ones(("c",), (0,))], (1, 1, 0)), (1, 900))

    def test_too_many_though_the_join_of_all_is_small(self):
        web = (("a",), ("b",), ("a", "b"))
        family = [ones(heading, *[(k,) for k in range(25)]) for heading in web[:2]] + [ones(("a", "b"), (0, 0))]
        raised(TooMany, product_rows, web, ((0, 2), (1, 2)), family)
        raised(TooMany, product_total, web, ((0, 2), (1, 2)), family)

    def test_just_600_rows(self):
        web = (("a",), ("b",))
        family = [ones(("a",), *[(k,) for k in range(20)]), ones(("b",), *[(k,) for k in range(30)])]
        self.assertEqual(product_rows(web, TIE, family),
                         [((j, k), (1, 600)) for j in range(20) for k in range(30)])
        self.assertEqual(product_total(web, TIE, family), (1, 1))
        raised(TooMany, product_rows, web, TIE, [family[0] + ones(("a",), (20,)), family[1]])

    def test_nothing_changes(self):
        family = list(TWO)
        product(PATH, TIE, family, (0, 0, 0))
        product_rows(PATH, TIE, family).clear()
        even_whole(PATH, family)
        self.assertEqual(family, list(TWO))
        self.assertEqual(len(product_rows(PATH, TIE, family)), 5)


class Free(unittest.TestCase):
    def test_by_hand(self):
        self.assertEqual([table.counts() for table in free(SHELL, ("a", "b"))],
                         [[((j, k), 1) for j in (0, 1) for k in (0, 1)]] + [[((0, 0), 2), ((1, 0), 2)]] * 2)
        self.assertEqual([table.counts() for table in free(PATH, ())], [[((0, 0), 1)], [((0, 0), 1)]])
        self.assertEqual([table.counts() for table in free((("a",), ()), ("a",))],
                         [[((0,), 1), ((1,), 1)], [((), 2)]])
        self.assertIsInstance(free(PATH, ("a",)), list)
        self.assertEqual([table.total() for table in free(SEVEN, ("a", "c", "d", "f", "g", "h"))], [64] * 7)

    def test_the_total_of_the_products_along_every_tree(self):
        rng = drawn(372)
        for n in range(60):
            web = cored_web(rng, "abcde") if n % 2 else drawn_web(rng, most_headings=4, most_columns=5, widest=3)
            if len(web) > 4:
                continue
            for tree in all_trees(web):
                columns = rng.choice(all_headings(columns_of(web)))
                k = sum([parts(web, tree, column) for column in columns]) - len(columns)
                self.assertEqual(product_total(web, tree, free(web, columns)), (1, 2 ** k))

    def test_it_is_1_along_foldings_and_a_half_or_less_over_a_core(self):
        rng = drawn(373)
        for _ in range(30):
            web = folding_web(rng, most_headings=4)
            for tree in all_trees(web):
                if is_folding_tree(web, tree):
                    self.assertEqual(product_total(web, tree, free(web, columns_of(web))), (1, 1))
        for web in (RING, SHELL):
            for tree in all_trees(web):
                p, q = product_total(web, tree, free(web, core(web)[1]))
                self.assertLessEqual(2 * p, q)


class EvenWhole(unittest.TestCase):
    def test_by_hand(self):
        n, table = even_whole(PATH, TWO)
        self.assertEqual((n, table.counts()), (3, [((0, 0, 0), 2), ((0, 0, 1), 4), ((1, 0, 0), 1), ((1, 0, 1), 2),
                                                   ((1, 1, 1), 3)]))
        self.assertIsInstance(even_whole(PATH, TWO), tuple)
        self.assertEqual(even_whole((AB,), TWO[:1]), (1, TWO[0]))
        self.assertEqual(even_whole((AB, AB), [TWO[0], TWO[0]]), (1, TWO[0]))
        self.assertEqual(even_whole(((),), [Table((), [((), 5)])]), (1, Table((), [((), 5)])))
        self.assertEqual(even_whole(((), ()), [Table((), [((), 5)])] * 2), (1, Table((), [((), 5)])))
        n, table = even_whole((("a",), ("b",)), [Table(("a",), [((0,), 1), ((1,), 2)]),
                                                 Table(("b",), [((0,), 1), ((1,), 2)])])
        self.assertEqual((n, table.counts()), (3, [((0, 0), 1), ((0, 1), 2), ((1, 0), 2), ((1, 1), 4)]))

    def test_drawn(self):
        rng = drawn(374)
        more = 0
        for _ in range(200):
            web = folding_web(rng, most_headings=4, most_columns=5, least=rng.randint(1, 3))
            family = filled_family(rng, web, rows=9, values=rng.randint(1, 2))
            n, table = even_whole(web, family)
            times = family[0].total()
            told = product_rows(web, tree_of(folding(web)), family)
            self.assertEqual(table.counts(), [(row, p * times * n // q) for row, (p, q) in told])
            for least in range(1, n + 1):
                if all([(p * times * least) % q == 0 for _, (p, q) in told]):
                    self.assertEqual(least, n)
            self.assertEqual(sums(web, table), [one * n for one in family])
            self.assertTrue(is_whole(web, [one * n for one in family], table))
            more += n > 1
        self.assertGreater(more, 20)

    def test_products_are_shares_along_every_folding(self):
        rng = drawn(375)
        for _ in range(60):
            web = folding_web(rng, most_headings=4, most_columns=5)
            family = filled_family(rng, web)
            told = product_rows(web, tree_of(folding(web)), family)
            for pairs in all_foldings(web):
                self.assertEqual(product_rows(web, tree_of(pairs), family), told)
                self.assertEqual(product_total(web, tree_of(pairs), family), (1, 1))
            columns = columns_of(web)
            for heading, table in zip(web, family):
                for row, count in table.counts():
                    added = sum([Fraction(p, q) for whole, (p, q) in told if part_of(columns, whole, heading) == row])
                    self.assertEqual(added, Fraction(count, table.total()))

    def test_cored_then_disagree_then_empty_then_too_many(self):
        family = [TWO[0], Table(("a", "c"), []), TWO[1]]
        self.assertEqual(raised(Cored, even_whole, SHELL, family).core, core(SHELL))
        self.assertEqual(raised(Cored, even_whole, RING, [Table(heading, []) for heading in RING]).core, core(RING))
        error = raised(Disagree, even_whole, PATH, [Table(AB, []), TWO[1]])
        self.assertEqual((error.one, error.other, error.row), (0, 1, (0,)))
        raised(Empty, even_whole, PATH, [Table(AB, []), Table(BC, [])])
        raised(Empty, even_whole, ((),), [Table((), [])])
        web = (("a",), ("b",))
        wide = [ones(heading, *[(k,) for k in range(25)]) for heading in web]
        raised(TooMany, even_whole, web, wide)
        error = raised(Disagree, even_whole, web, [wide[0] * 2, wide[1]])
        self.assertEqual((error.one, error.other, error.row), (0, 1, ()))

    def test_too_many_though_the_join_of_all_is_small(self):
        web = (("a",), ("b",), ("a", "b"))
        family = sums(web, ones(("a", "b"), *[(k, k) for k in range(25)]))
        raised(TooMany, even_whole, web, family)
        self.assertEqual(even_whole(web[::-1], family[::-1]), (1, family[2]))

    def test_disagreement_of_drawn_families(self):
        rng = drawn(376)
        for _ in range(40):
            web = folding_web(rng)
            family = drawn_family(rng, web)
            if disagreement(web, family) is not None:
                error = raised(Disagree, even_whole, web, family)
                self.assertEqual((error.one, error.other, error.row), disagreement(web, family))

    def test_a_core_has_families_with_a_whole_and_no_shares(self):
        family = free(SHELL, ("a", "b", "c"))
        for tree in all_trees(SHELL):
            self.assertNotEqual(product_total(SHELL, tree, family), (1, 1))

    def test_counts_of_thirty_figures(self):
        most = 10 ** 30 - 1
        family = sums(CHAIN, Table(("a", "b", "c", "d"), [((0, 0, 0, 0), most), ((1, 0, 0, 1), most - 7),
                                                          ((1, 0, 1, 1), most - 30)]))
        n, table = even_whole(CHAIN, family)
        self.assertTrue(is_whole(CHAIN, [one * n for one in family], table))


if __name__ == "__main__":
    unittest.main()
