"""[5.6], [5.7] and [5.8]: columns that are apart, and what products let be seen."""

import itertools
import unittest
from fractions import Fraction

from agreetwo.cores import core
from agreetwo.ears import folding
from agreetwo.errors import BadNumber, Cored, Disagree, Empty, TooMany, UnknownColumn
from agreetwo.families import check_family, disagreement, sums
from agreetwo.joints import join
from agreetwo.products import even_whole, product_rows
from agreetwo.seeing import apart, chance, kept_apart, likeliest, row_at, seen
from agreetwo.tables import Table, summed
from agreetwo.trees import tree_of
from agreetwo.webs import columns_of
from tests.support import (AB, BC, CHAIN, RING, SHELL, any_values, cored_web, drawn, drawn_family, drawn_table,
                           filled_family, folding_web, ones, raised)
from tests.tableways import pair, part_of

PATH = (AB, BC)
TWO = (Table(AB, [((0, 0), 2), ((1, 0), 1), ((1, 1), 1)]), Table(BC, [((0, 0), 1), ((0, 1), 2), ((1, 1), 1)]))
SAME = Table(AB, [((0, 0), 1), ((1, 1), 1)])
ABC = ("a", "b", "c")
SEVEN = tuple([("abcdefgh"[k], "abcdefgh"[k + 1]) for k in range(7)])


def slow_apart(table, one, other, given):
    """[5.6], over all rows that could be such."""
    columns = tuple(sorted(one + other + given))
    times = {heading: summed(table, heading) for heading in (columns, tuple(sorted(given + one)),
                                                             tuple(sorted(given + other)), given)}
    values = [sorted({row[table.heading().index(column)] for row in table}) for column in columns]
    for row in itertools.product(*values):
        left, right, both, alone = [times[heading].times(part_of(columns, row, heading)) for heading in (
            tuple(sorted(given + one)), tuple(sorted(given + other)), columns, given)]
        if left > 0 and right > 0 and left * right != both * alone:
            return row
    return None


def drawn_three(rng, columns):
    """Three headings of these columns without common ones."""
    sides = [rng.randint(0, 3) for _ in columns]
    return [tuple([column for column, side in zip(columns, sides) if side == k]) for k in range(3)]


def chains(web, one, other, given):
    """All chains without a column of given and with no column twice, fewer columns ahead of more, then ascending."""
    columns = columns_of(web)
    found = []
    for many in range(2, len(columns) + 1):
        for chain in itertools.permutations([column for column in columns if column not in given], many):
            near = [any([a in heading and b in heading for heading in web]) for a, b in zip(chain, chain[1:])]
            if chain[0] in one and chain[-1] in other and all(near):
                found.append(chain)
    return found


class Apart(unittest.TestCase):
    def test_by_hand(self):
        self.assertEqual(apart(SAME, ("a",), ("b",), ()), (0, 0))
        self.assertIsNone(apart(Table(AB, [((0, 0), 1), ((0, 1), 2)]), ("a",), ("b",), ()))
        self.assertIsNone(apart(Table(AB, [((0, 0), 1), ((0, 1), 2), ((1, 0), 2), ((1, 1), 4)]), ("a",), ("b",), ()))
        # The row that shows it need be none of the table: both parts are rows, and it is none.
        self.assertEqual(apart(ones(AB, (0, 5), (1, 3)), ("a",), ("b",), ()), (0, 3))
        self.assertIsNone(apart(ones(ABC, (0, 0, 0), (1, 1, 1)), ("a",), ("c",), ("b",)))
        self.assertEqual(apart(ones(ABC, (0, 0, 0), (1, 0, 1), (1, 1, 1)), ("a",), ("c",), ("b",)), (0, 0, 0))
        self.assertEqual(apart(ones(ABC, (0, 1, 0), (1, 1, 1), (0, 0, 0)), ("a",), ("c",), ("b",)), (0, 1, 0))

    def test_rows_over_the_three_alone(self):
        table = ones(("a", "b", "c", "d"), (0, 9, 0, 3), (1, 8, 1, 4))
        self.assertEqual(apart(table, ("a",), ("c",), ()), (0, 0))
        self.assertEqual(apart(table, ("c",), ("a",), ()), (0, 0))
        self.assertIsNone(apart(table, ("a",), ("c",), ("d",)))
        self.assertEqual(apart(table, ("a", "d"), ("c",), ()), (0, 0, 3))

    def test_headings_that_are_empty_and_tables_without_rows(self):
        for one, other, given in [((), (), ()), (("a",), (), ()), ((), ("b",), ("a",)), (AB, (), ()), ((), (), AB)]:
            self.assertIsNone(apart(SAME, one, other, given))
        self.assertIsNone(apart(Table(AB, []), ("a",), ("b",), ()))
        self.assertIsNone(apart(Table((), [((), 3)]), (), (), ()))

    def test_drawn(self):
        rng = drawn(381)
        told = {True: 0, False: 0}
        for _ in range(300):
            table = drawn_table(rng, rng.choice([AB, ABC, ("a", "b", "c", "d")]), rows=7, values=1, most=2)
            one, other, given = drawn_three(rng, table.heading())
            self.assertEqual(apart(table, one, other, given), slow_apart(table, one, other, given))
            told[apart(table, one, other, given) is None] += 1
        self.assertGreater(min(told.values()), 30)


class KeptApart(unittest.TestCase):
    def test_by_hand(self):
        self.assertIsNone(kept_apart(PATH, ("a",), ("c",), ("b",)))
        told = kept_apart(PATH, ("a",), ("c",), ())
        self.assertEqual([one.counts() for one in told], [[((0, 0), 1), ((1, 1), 1)]] * 2)
        self.assertIsInstance(told, list)
        told = kept_apart(CHAIN, ("b",), ("c",), ("a", "d"))
        self.assertEqual([one.counts() for one in told],
                         [[((0, 0), 1), ((0, 1), 1)], [((0, 0), 1), ((1, 1), 1)], [((0, 0), 1), ((1, 0), 1)]])

    def test_no_chain(self):
        self.assertIsNone(kept_apart((("a",), ("b",)), ("a",), ("b",), ()))
        for one, other, given in [((), (), ()), (("a",), (), ()), ((), ("a",), ()), ((), (), ("a", "b", "c"))]:
            self.assertIsNone(kept_apart(PATH, one, other, given))

    def test_the_shortest_chain_and_the_first_one(self):
        web = (("a", "c", "e"), ("b", "c"), ("b", "d", "e"), ("b", "c", "e"))
        self.assertIsNotNone(folding(web))
        marked = [column for column in "abcde" if (1,) in summed_of(kept_apart(web, ("a",), ("d",), ()), web, column)]
        self.assertEqual(marked, ["a", "d", "e"])
        marked = [column for column in "abcde" if (1,) in summed_of(kept_apart(web, ("a",), ("d",), ("e",)), web, column)]
        self.assertEqual(marked, ["a", "b", "c", "d"])
        marked = [column for column in "abcde" if (1,) in summed_of(kept_apart(web, ("a", "c"), ("b", "d"), ()), web,
                                                                    column)]
        self.assertEqual(marked, ["b", "c"])

    def test_drawn(self):
        rng = drawn(382)
        told = {True: 0, False: 0}
        for _ in range(250):
            web = folding_web(rng, most_headings=5, most_columns=6)
            columns = columns_of(web)
            one, other, given = drawn_three(rng, columns)
            found = chains(web, one, other, given)
            family = kept_apart(web, one, other, given)
            if not found:
                self.assertIsNone(family)
            else:
                rows = [(0,) * len(columns), tuple([int(column in found[0]) for column in columns])]
                self.assertEqual(family, sums(web, Table(columns, [(row, 1) for row in rows])))
            told[family is None] += 1
        self.assertGreater(min(told.values()), 30)

    def test_what_it_says_of_the_even_whole(self):
        rng = drawn(383)
        told = {True: 0, False: 0}
        for _ in range(150):
            web = folding_web(rng, most_headings=4, most_columns=5, least=2)
            one, other, given = drawn_three(rng, columns_of(web))
            family = kept_apart(web, one, other, given)
            if family is None:
                for _ in range(3):
                    table = even_whole(web, filled_family(rng, web))[1]
                    self.assertIsNone(apart(table, one, other, given))
            else:
                self.assertIsNone(check_family(web, family))
                self.assertIsNone(disagreement(web, family))
                self.assertIsNotNone(apart(even_whole(web, family)[1], one, other, given))
            told[family is None] += 1
        self.assertGreater(min(told.values()), 20)

    def test_eight_columns(self):
        self.assertEqual(kept_apart(SEVEN, ("a",), ("h",), ()), sums(SEVEN, ones(tuple("abcdefgh"), (0,) * 8, (1,) * 8)))
        self.assertIsNone(kept_apart(SEVEN, ("a", "b"), ("h",), ("e",)))

    def test_cored_ahead_of_all_else(self):
        for web in (RING, SHELL):
            for one, other, given in [(("a",), ("b",), ()), ((), (), ()), (("a",), ("c",), ("b",))]:
                self.assertEqual(raised(Cored, kept_apart, web, one, other, given).core, core(web))


def summed_of(family, web, column):
    """The rows of the sum onto one column of a table of the family."""
    x = [k for k in range(len(web)) if column in web[k]][0]
    return summed(family[x], (column,)).rows()


def told_rows(web, family):
    """All rows of the join with their products, by the list product_rows."""
    return [(row, Fraction(*made)) for row, made in product_rows(web, tree_of(folding(web)), family)]


def fitting_rows(web, family, known):
    columns = columns_of(web)
    return [(row, made) for row, made in told_rows(web, family)
            if all([dict(zip(columns, row))[column] == worth for column, worth in known.items()])]


def drawn_known(rng, columns):
    many = rng.randint(0, min(2, len(columns)))
    return {column: rng.randint(0, 2) for column in rng.sample(columns, many)}


class Seeing(unittest.TestCase):
    def test_by_hand(self):
        self.assertEqual(chance(PATH, TWO, {}), (1, 1))
        self.assertEqual(chance(PATH, list(TWO), {"c": 1}), (3, 4))
        self.assertEqual(chance(PATH, TWO, {"c": 9}), (0, 1))
        self.assertEqual(chance(PATH, TWO, {"c": 1, "a": 0}), (1, 3))
        self.assertEqual(seen(PATH, TWO, {"c": 1}, "a"), {0: (4, 9), 1: (5, 9)})
        self.assertEqual(likeliest(PATH, TWO, {"a": 1}), ((1, 1, 1), (1, 4)))
        self.assertEqual([row_at(PATH, TWO, point) for point in [(0, 1), (1, 6), (99, 100)]],
                         [(0, 0, 0), (0, 0, 1), (1, 1, 1)])

    def test_known_that_has_the_asked_column(self):
        self.assertEqual(seen(PATH, TWO, {"a": 1}, "a"), {1: (1, 1)})
        self.assertEqual(seen(PATH, TWO, {"b": 0, "c": 1}, "b"), {0: (1, 1)})

    def test_integers_that_are_no_values(self):
        for worth in (-1, 100, 10 ** 40 - 1, -10 ** 39):
            self.assertEqual(chance(PATH, TWO, {"a": worth}), (0, 1))
            raised(Empty, seen, PATH, TWO, {"a": worth}, "b")
            raised(Empty, likeliest, PATH, TWO, {"a": worth})
        # True is no number, so it is no row's value, though Python finds it equal to 1.
        self.assertEqual(chance(PATH, TWO, {"a": True}), (0, 1))

    def test_of_equal_products_the_first_row(self):
        self.assertEqual(likeliest((AB,), [SAME], {}), ((0, 0), (1, 2)))
        self.assertEqual(likeliest((("a",), ("b",)), [ones(("a",), (4,), (7,)), ones(("b",), (3,), (9,))], {"b": 9}),
                         ((4, 9), (1, 4)))
        table = Table(AB, [((0, 5), 2), ((1, 3), 3), ((2, 2), 3)])
        self.assertEqual(likeliest((AB, ("b",)), [table, summed(table, ("b",))], {}), ((1, 3), (3, 8)))

    def test_webs_without_columns(self):
        family = [Table((), [((), 5)])] * 2
        self.assertEqual(chance(((), ()), family, {}), (1, 1))
        self.assertEqual(likeliest(((), ()), family, {}), ((), (1, 1)))
        self.assertEqual(row_at(((), ()), family, (4, 5)), ())
        self.assertEqual(raised(UnknownColumn, seen, ((), ()), family, {}, "a").column, "a")

    def test_drawn(self):
        rng = drawn(384)
        empty = 0
        for _ in range(200):
            web = folding_web(rng, most_headings=5, most_columns=5, least=rng.randint(1, 3))
            family = filled_family(rng, web, rows=8, values=rng.randint(1, 2))
            columns = columns_of(web)
            known = drawn_known(rng, columns)
            rows = fitting_rows(web, family, known)
            total = sum([made for _, made in rows], Fraction(0))
            self.assertEqual(chance(web, family, known), pair(total))
            if not rows:
                raised(Empty, likeliest, web, family, known)
                for column in columns:
                    raised(Empty, seen, web, family, known, column)
                empty += 1
                continue
            greatest = max([made for _, made in rows])
            self.assertEqual(likeliest(web, family, known),
                             ([row for row, made in rows if made == greatest][0], pair(greatest)))
            for k, column in enumerate(columns):
                told = {}
                for row, made in rows:
                    told[row[k]] = told.get(row[k], Fraction(0)) + made
                expected = [(worth, pair(told[worth] / total)) for worth in sorted(told)]
                self.assertEqual(list(seen(web, family, known, column).items()), expected)
        self.assertTrue(20 < empty < 150)

    def test_row_at_just_at_the_end_of_a_row_s_share_and_around(self):
        rng = drawn(385)
        for _ in range(60):
            web = folding_web(rng, most_headings=4, most_columns=5, least=rng.randint(1, 3))
            family = filled_family(rng, web, rows=8)
            rows = told_rows(web, family)
            ahead = Fraction(0)
            for k, (row, made) in enumerate(rows):
                self.assertEqual(row_at(web, family, pair(ahead)), row)
                self.assertEqual(row_at(web, family, pair(ahead + made / 2)), row)
                self.assertEqual(row_at(web, family, pair(ahead + made * Fraction(10 ** 30 - 1, 10 ** 30))), row)
                ahead += made
            self.assertEqual(ahead, 1)

    def test_points(self):
        self.assertEqual(raised(BadNumber, row_at, PATH, TWO, (1, 1)).number, (1, 1))
        wrong = [(0, 2), (2, 4), (-1, 2), (1, -2), (3, 2), (1, 0), (0, 0), (0, -1), (True, 2), (0, True), (False, 1),
                 [0, 1], [1, 2], (1, 2, 3), (1,), ("0", 1), (None, 1), {0: 1}, (5, 1), (-0, 3), ((0, 1), 1)]
        for value in wrong + any_values():
            error = raised(BadNumber, row_at, PATH, TWO, value)
            self.assertEqual(error.number, value)
            self.assertIs(error.number.__class__, value.__class__)

    def test_unknown_columns(self):
        for value in any_values() + ["d", "A", ("a",), ["a"], 1, True]:
            if value != "a":
                self.assertEqual(raised(UnknownColumn, seen, PATH, TWO, {}, value).column, value)
                self.assertEqual(raised(UnknownColumn, seen, PATH, TWO, {"a": 9}, value).column, value)
        keys = ["d", "", 0, 1, -1, True, None, ("a",), (), (0, (1, "a")), 10 ** 40 - 1, "ab"]
        for key in keys:
            for call in (chance, likeliest, lambda web, family, known: seen(web, family, known, "a"),
                         lambda web, family, known: seen(web, family, known, "zzz")):
                error = raised(UnknownColumn, call, PATH, TWO, {"a": 9, key: 1, "zz": 1})
                self.assertEqual(error.column, key)
                self.assertIs(error.column.__class__, key.__class__)
        self.assertEqual(raised(UnknownColumn, chance, PATH, TWO, {"z": 1, "d": 1}).column, "z")
        self.assertEqual(raised(UnknownColumn, chance, PATH, TWO, {"d": 1, "z": 1}).column, "d")

    def calls(self):
        return [lambda web, family: chance(web, family, {"zz": 1}), lambda web, family: seen(web, family, {}, "zz"),
                lambda web, family: seen(web, family, {"zz": 1}, ["a"]), lambda web, family: row_at(web, family, (1, 1)),
                lambda web, family: likeliest(web, family, {"zz": 1}), lambda web, family: chance(web, family, {}),
                lambda web, family: likeliest(web, family, {}), lambda web, family: row_at(web, family, (0, 1))]

    def test_cored_then_disagree_then_empty_ahead_of_all_else(self):
        for call in self.calls():
            for web in (RING, SHELL):
                family = [ones(heading, (0, k)) for k, heading in enumerate(web)]
                self.assertEqual(raised(Cored, call, web, family).core, core(web))
                empty = [Table(heading, []) for heading in web]
                self.assertEqual(raised(Cored, call, web, empty).core, core(web))
            error = raised(Disagree, call, PATH, [Table(AB, []), TWO[1]])
            self.assertEqual((error.one, error.other, error.row), (0, 1, (0,)))
            raised(Empty, call, PATH, [Table(AB, []), Table(BC, [])])

    def test_errors_of_drawn_families(self):
        rng = drawn(386)
        for _ in range(30):
            web = cored_web(rng)
            for call in self.calls():
                self.assertEqual(raised(Cored, call, web, drawn_family(rng, web)).core, core(web))
            web = folding_web(rng)
            family = drawn_family(rng, web)
            if disagreement(web, family) is not None:
                for call in self.calls():
                    error = raised(Disagree, call, web, family)
                    self.assertEqual((error.one, error.other, error.row), disagreement(web, family))

    def test_nothing_changes_and_dicts_are_new(self):
        family, known = list(TWO), {"c": 1}
        told = seen(PATH, family, known, "a")
        told.clear()
        self.assertEqual(seen(PATH, family, known, "a"), {0: (4, 9), 1: (5, 9)})
        chance(PATH, family, known)
        likeliest(PATH, family, known)
        row_at(PATH, family, (1, 2))
        self.assertEqual((family, known), (list(TWO), {"c": 1}))


class SevenTables(unittest.TestCase):
    def test_sixty_four_rows_each_and_a_join_of_millions(self):
        rng = drawn(387)
        web, total = tuple([("a", letter) for letter in "bcdefgh"]), 10 ** 30 - 1
        family = []
        for heading in web:
            counts = []
            for k in (0, 1):
                some = [rng.randint(1, 10 ** 28) for _ in range(31)]
                counts.extend([((k, worth), n) for worth, n in enumerate(some + [total - sum(some)])])
            family.append(Table(heading, counts))
        self.assertEqual([len(table) for table in family], [64] * 7)
        raised(TooMany, join, family)
        self.assertEqual(chance(web, family, {}), (1, 1))
        self.assertEqual(chance(web, family, {"a": 0}), (1, 2))
        self.assertEqual(seen(web, family, {"b": 4, "c": 6}, "d"),
                         {worth: pair(Fraction(sum([family[0].times((k, 4)) * family[1].times((k, 6))
                                                    * family[2].times((k, worth)) for k in (0, 1)]),
                                               sum([family[0].times((k, 4)) * family[1].times((k, 6)) * total
                                                    for k in (0, 1)]))) for worth in range(32)})
        row, made = likeliest(web, family, {"a": 0, "b": 4})
        self.assertEqual(row, (0, 4) + (31,) * 6)
        expected = Fraction(1, 2)
        for table, worth in zip(family, row[1:]):
            expected *= Fraction(table.times((0, worth)), total)
        self.assertEqual(made, pair(expected))
        self.assertEqual(row_at(web, family, (0, 1)), (0,) * 8)
        self.assertEqual(row_at(web, family, (1, 2)), (1,) + (0,) * 7)
        self.assertEqual(row_at(web, family, (10 ** 400 - 1, 10 ** 400)), (1,) + (31,) * 7)

    def test_a_chain(self):
        rng = drawn(388)
        table = Table(tuple("abcdefgh"), [(tuple([rng.randint(0, 5) for _ in range(8)]), rng.randint(1, 10 ** 30 - 1))
                                          for _ in range(64)])
        family = sums(SEVEN, table)
        self.assertEqual(chance(SEVEN, family, {}), (1, 1))
        for column in "abcdefgh":
            told = {worth: pair(Fraction(count, table.total()))
                    for (worth,), count in summed(table, (column,)).counts()}
            self.assertEqual(seen(SEVEN, family, {}, column), told)
        row, made = likeliest(SEVEN, family, {"a": 2, "h": 3})
        self.assertEqual((row[0], row[7]), (2, 3))
        self.assertLessEqual(Fraction(*made), Fraction(*chance(SEVEN, family, {"a": 2, "h": 3})))


if __name__ == "__main__":
    unittest.main()
