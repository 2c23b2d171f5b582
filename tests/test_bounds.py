"""[7.1] to [7.3] and [7.5]: how often wholes have a row, and groups of headings."""

import itertools
import unittest

from agreetwo.bounds import bounds_over, greatest, groups_over, least, whole_with
from agreetwo.cores import core
from agreetwo.ears import folding, root
from agreetwo.errors import BadGroup, BadNumber, BadRow, Cored, Disagree
from agreetwo.families import disagreement, is_whole, sums
from agreetwo.headings import together
from agreetwo.tables import Table
from agreetwo.trees import tree_of
from agreetwo.webs import columns_of
from agreetwo.wholes import whole
from tests.support import (AB, BC, CHAIN, RING, SHELL, agreeing_family, any_values, cored_web, drawn, drawn_family,
                           folding_web, grown_web, ones, raised)
from tests.tableways import all_headings, all_tables_of, count_in, join_rows, part_of, sum_of
from tests.webways import pieces_of

WEB = (AB, BC)
ONE = Table(AB, [((0, 0), 2), ((1, 0), 1), ((1, 1), 1)])
TWO = Table(BC, [((0, 0), 1), ((0, 1), 2), ((1, 1), 1)])
FAMILY = (ONE, TWO)
MOST = 10 ** 30 - 1


def rows_to_ask(rng, web, family):
    """Rows of the join, and some that no table has."""
    columns = columns_of(web)
    rows = join_rows(web, family)
    return rows[:6] + [tuple([rng.randint(0, 2) for _ in columns]) for _ in range(3)]


def small_family(rng, web):
    """A family that agrees, of a total of at most eight."""
    return agreeing_family(rng, web, rows=rng.choice([1, 3, 5, 5]), values=rng.choice([1, 1, 2]), most=2)


def slow_with(web, family, row, n):
    """[7.3] with one copy of a row for each time that it is there."""
    columns, pairs = columns_of(web), folding(web)
    top = root(web, pairs)
    seen, made = web[top], [small for small, count in family[top].counts() for _ in range(count)]
    told = made.count(part_of(columns, row, seen))
    for x, y in reversed(pairs):
        new = [small for small, count in family[x].counts() for _ in range(count)]
        seam = [column for column in web[x] if column in web[y]]
        own, mine = part_of(columns, row, seen), part_of(columns, row, web[x])
        told += new.count(mine) - [part_of(web[x], small, seam) for small in new].count(part_of(columns, row, seam))
        c = max(n, told)
        longer = together(seen, web[x])
        pairs_made = []
        for small in sorted({part_of(web[x], mate, seam) for mate in new}):
            left = sorted([mate for mate in made if part_of(seen, mate, seam) == small])
            right = sorted([mate for mate in new if part_of(web[x], mate, seam) == small])
            if small == part_of(columns, row, seam):
                for _ in range(c):
                    left.remove(own)
                    right.remove(mine)
                    pairs_made.append((own, mine))
                left = [mate for mate in left if mate == own] + [mate for mate in left if mate != own]
                right = [mate for mate in right if mate != mine] + [mate for mate in right if mate == mine]
            assert len(left) == len(right)
            pairs_made.extend(zip(left, right))
        made = []
        for one, other in pairs_made:
            values = {**dict(zip(seen, one)), **dict(zip(web[x], other))}
            made.append(tuple([values[column] for column in longer]))
        seen = longer
        assert made.count(part_of(columns, row, seen)) == c
    return Table(columns, [(one, 1) for one in made])


class Limits(unittest.TestCase):
    def test_by_hand(self):
        self.assertEqual([least(WEB, FAMILY, (0, 0, 1)), greatest(WEB, FAMILY, (0, 0, 1))], [1, 2])
        self.assertEqual([least(WEB, list(FAMILY), (0, 0, 0)), greatest(WEB, list(FAMILY), (0, 0, 0))], [0, 1])
        self.assertEqual([least(WEB, FAMILY, (1, 1, 1)), greatest(WEB, FAMILY, (1, 1, 1))], [1, 1])

    def test_rows_that_no_table_has(self):
        for row in [(9, 9, 9), (0, 1, 1), (0, 0, 7), (99, 0, 0)]:
            self.assertEqual([least(WEB, FAMILY, row), greatest(WEB, FAMILY, row)], [0, 0])
        empty = [Table(AB, []), Table(BC, [])]
        self.assertEqual([least(WEB, empty, (0, 0, 0)), greatest(WEB, empty, (0, 0, 0))], [0, 0])

    def test_one_heading_and_like_headings(self):
        self.assertEqual([least((AB,), [ONE], (0, 0)), greatest((AB,), [ONE], (0, 0))], [2, 2])
        self.assertEqual([least((AB, AB), [ONE, ONE], (0, 0)), greatest((AB, AB), [ONE, ONE], (0, 0))], [2, 2])
        self.assertEqual([least(((),), [Table((), [((), 5)])], ()), greatest(((),), [Table((), [((), 5)])], ())], [5, 5])

    def test_headings_that_share_nothing(self):
        web, family = (("a",), ("b",)), [Table(("a",), [((0,), 3), ((1,), 1)]), Table(("b",), [((0,), 2), ((1,), 2)])]
        self.assertEqual([least(web, family, (0, 0)), greatest(web, family, (0, 0))], [1, 2])
        self.assertEqual([least(web, family, (1, 0)), greatest(web, family, (1, 0))], [0, 1])

    def test_great_counts(self):
        family = [Table(("a",), [((0,), MOST), ((1,), 1)]), Table(("b",), [((0,), MOST - 5), ((1,), 6)])]
        self.assertEqual([least((("a",), ("b",)), family, (0, 0)), greatest((("a",), ("b",)), family, (0, 0))],
                         [MOST - 6, MOST - 5])

    def test_all_wholes_show_them(self):
        rng = drawn(701)
        wide = 0
        for n in range(200):
            web = grown_web(rng) if n % 4 else folding_web(rng, most_headings=4, most_columns=4)
            family = agreeing_family(rng, web, rows=6, most=2) if n % 2 else small_family(rng, web)
            wholes = all_tables_of(web, family)
            for row in rows_to_ask(rng, web, family):
                told = [count_in(counts, row) for counts in wholes]
                low, high = least(web, family, row), greatest(web, family, row)
                self.assertEqual((low, high), (min(told), max(told)), (web, row))
                self.assertEqual(sorted(set(told)), list(range(low, high + 1)))
                wide += low < high
        self.assertGreater(wide, 50)


class WholeWith(unittest.TestCase):
    def test_by_hand(self):
        self.assertEqual(whole_with(WEB, FAMILY, (0, 0, 1), 1).counts(),
                         [((0, 0, 0), 1), ((0, 0, 1), 1), ((1, 0, 1), 1), ((1, 1, 1), 1)])
        self.assertEqual(whole_with(WEB, FAMILY, (0, 0, 1), 2).counts(),
                         [((0, 0, 1), 2), ((1, 0, 0), 1), ((1, 1, 1), 1)])

    def test_what_is_left_of_the_row_comes_first_there_and_last_here(self):
        web = (("a",), ("b",))
        family = [ones(("a",), (0,), (1,), (2,)), ones(("b",), (0,), (1,), (2,))]
        self.assertEqual(folding(web), ((0, 1),))
        # Heading 1 is the root: its 1 comes first, and the 1 of heading 0 comes last.
        self.assertEqual(whole_with(web, family, (1, 1), 0).rows(), [(0, 1), (1, 2), (2, 0)])
        self.assertEqual(whole_with(web, family, (1, 1), 1).rows(), [(0, 0), (1, 1), (2, 2)])

    def test_one_heading(self):
        self.assertEqual(whole_with((AB,), [ONE], (0, 0), 2), ONE)
        self.assertEqual(whole_with((AB,), [ONE], (7, 7), 0), ONE)
        self.assertEqual(raised(BadNumber, whole_with, (AB,), [ONE], (0, 0), 1).number, 1)

    def test_great_counts(self):
        web = (("a",), ("b",), ("c",))
        family = [Table((column,), [((0,), MOST - k), ((1,), k + 1)]) for k, column in enumerate("abc")]
        low, high = least(web, family, (0, 0, 0)), greatest(web, family, (0, 0, 0))
        self.assertEqual((low, high), (MOST - 5, MOST - 2))
        for n in (low, low + 1, high):
            made = whole_with(web, family, (0, 0, 0), n)
            self.assertEqual(made.times((0, 0, 0)), n)
            self.assertTrue(is_whole(web, family, made))

    def test_drawn(self):
        rng = drawn(702)
        many, unlike = 0, 0
        for n in range(120):
            web = grown_web(rng, 5, 6, 2) if n % 4 else folding_web(rng, most_headings=5, most_columns=5)
            family = agreeing_family(rng, web, rows=6, values=rng.choice([1, 2]), most=3)
            for row in rows_to_ask(rng, web, family):
                low, high = least(web, family, row), greatest(web, family, row)
                for n in range(low, high + 1):
                    made = whole_with(web, family, row, n)
                    self.assertTrue(is_whole(web, family, made))
                    self.assertEqual(made.times(row), n)
                    self.assertEqual(made, slow_with(web, family, row, n), (web, row, n))
                    unlike += made != whole(web, family)
                    many += 1
                for n in (low - 1, high + 1):
                    self.assertEqual(raised(BadNumber, whole_with, web, family, row, n).number, n)
        self.assertGreater(many, 500)
        self.assertGreater(unlike, 100)

    def test_each_number_that_is_none(self):
        for n, again in zip(any_values(), any_values()):
            if n.__class__ is not int or not 1 <= n <= 2:
                error = raised(BadNumber, whole_with, WEB, FAMILY, (0, 0, 1), n)
                self.assertEqual(error.number, again)
                self.assertIs(error.number.__class__, again.__class__)
        for n in (True, 0, 3, "1", (1,), [1]):
            self.assertEqual(raised(BadNumber, whole_with, WEB, FAMILY, (0, 0, 1), n).number, n)
        self.assertIs(raised(BadNumber, whole_with, WEB, FAMILY, (1, 1, 1), True).number, True)
        self.assertIs(raised(BadNumber, whole_with, WEB, FAMILY, (9, 9, 9), False).number, False)


class Errors(unittest.TestCase):
    def calls(self):
        return [least, greatest, lambda web, family, row: whole_with(web, family, row, None),
                lambda web, family, row: bounds_over(web, family, None, row)]

    def test_cored_ahead_of_all_else(self):
        for web in (RING, SHELL):
            family = [ones(heading, (0, k)) for k, heading in enumerate(web)]
            self.assertIsNotNone(disagreement(web, family))
            for call in self.calls():
                self.assertEqual(raised(Cored, call, web, family, None).core, core(web))

    def test_disagree_ahead_of_all_that_is_asked(self):
        family = [ONE, TWO * 2]
        for call in self.calls():
            error = raised(Disagree, call, WEB, family, None)
            self.assertEqual((error.one, error.other, error.row), (0, 1, (0,)))
        rng = drawn(703)
        for _ in range(40):
            web = folding_web(rng)
            family = drawn_family(rng, web)
            told = disagreement(web, family)
            if told is not None:
                for call in self.calls():
                    error = raised(Disagree, call, web, family, None)
                    self.assertEqual((error.one, error.other, error.row), told)

    def test_bad_row_for_every_value_that_is_none(self):
        rows = any_values() + [[0, 0, 1], (0, 0), (0, 0, 1, 1), (0, 0, True), (0, 0, False), (0, 0, 100), (0, -1, 0),
                               (0, 0, "1"), (0, 0, None), ((0, 0, 1),), (0, 0, (1,)), (0, 0, [1])]
        for row in rows:
            for call in (least, greatest):
                self.assertEqual(raised(BadRow, call, WEB, FAMILY, row).number, 0)
            self.assertEqual(raised(BadRow, bounds_over, WEB, FAMILY, (0, 1), row).number, 0)

    def test_bad_row_comes_ahead_of_bad_number(self):
        for n in any_values():
            self.assertEqual(raised(BadRow, whole_with, WEB, FAMILY, [0, 0, 1], n).number, 0)
            self.assertEqual(raised(BadRow, whole_with, WEB, FAMILY, (True, 0, 1), n).number, 0)

    def test_nothing_that_is_passed_changes(self):
        family = [ONE, TWO]
        least(WEB, family, (0, 0, 1))
        greatest(WEB, family, (0, 0, 1))
        whole_with(WEB, family, (0, 0, 1), 1)
        bounds_over(WEB, family, (0,), (0, 0))
        self.assertEqual(family, [ONE, TWO])
        self.assertEqual(ONE.counts(), [((0, 0), 2), ((1, 0), 1), ((1, 1), 1)])


def is_hanging(tree, group):
    return pieces_of(group, [tie for tie in tree if tie[0] in group and tie[1] in group]) == 1


def all_groups(web):
    tree, numbers = tree_of(folding(web)), range(len(web))
    lots = [lot for many in range(1, len(web) + 1) for lot in itertools.combinations(numbers, many)]
    return [lot for lot in lots if is_hanging(tree, lot)]


class Groups(unittest.TestCase):
    def test_by_hand(self):
        self.assertEqual(bounds_over(WEB, FAMILY, (0,), (0, 0)), (2, 2))
        self.assertEqual(bounds_over(WEB, FAMILY, (1,), (0, 1)), (2, 2))
        self.assertEqual(bounds_over(WEB, FAMILY, (0, 1), (0, 0, 1)), (1, 2))
        self.assertEqual(bounds_over(WEB, FAMILY, (0,), (9, 9)), (0, 0))
        self.assertEqual(groups_over(CHAIN, ("a", "b", "c", "d")), [(0, 1, 2)])
        self.assertEqual(groups_over(CHAIN, ("a", "b", "c")), [(0, 1)])
        self.assertEqual(groups_over(CHAIN, ("a", "b", "d")), [(0,)])
        self.assertEqual(groups_over(CHAIN, ("a", "d")), [])
        self.assertEqual(groups_over(CHAIN, ()), [])

    def test_several_groups(self):
        web = (("a", "b"), ("b", "c"), ("c", "d"), ("d", "e"), ("e", "f"))
        self.assertEqual(tree_of(folding(web)), ((0, 1), (1, 2), (2, 3), (3, 4)))
        self.assertEqual(groups_over(web, ("a", "b", "d", "e", "f")), [(0,), (3, 4)])
        self.assertEqual(groups_over(web, ("a", "b", "c", "d", "e", "f", "z")), [(0, 1, 2, 3, 4)])
        self.assertEqual(groups_over(((), ("a",), ()), ()), [(0,), (2,)])
        self.assertEqual(groups_over(((), (), ("a",)), ()), [(0, 1)])
        self.assertEqual(groups_over((("b",), ("a", "b"), ("b",)), ("b",)), [(0,), (2,)])

    def test_groups_of_drawn_webs(self):
        rng = drawn(704)
        several = 0
        for _ in range(150):
            web = folding_web(rng, most_headings=7, most_columns=6)
            groups = all_groups(web)
            columns = rng.choice(all_headings(columns_of(web) + ("y", "z")))
            inside = [lot for lot in groups if all([set(web[x]) <= set(columns) for x in lot])]
            expected = sorted([lot for lot in inside if not any([set(lot) < set(other) for other in inside])])
            self.assertEqual(groups_over(web, columns), expected)
            several += len(expected) > 1
            family = [Table(heading, []) for heading in web]
            for many in range(len(web) + 1):
                for lot in itertools.combinations(range(len(web)), many):
                    row = tuple([0 for _ in columns_of(tuple([web[x] for x in lot]))]) if lot else ()
                    if lot in groups:
                        self.assertEqual(bounds_over(web, family, lot, row), (0, 0))
                    else:
                        raised(BadGroup, bounds_over, web, family, lot, row)
        self.assertGreater(several, 15)

    def test_every_value_that_is_no_group(self):
        wrong = [(), [0], [0, 1], (1, 0), (0, 0), (0, 2), (-1,), (2,), (0, 1, 2), (False,), (True,), (0, True), ("0",),
                 ((0, 1),), ((0,),), (None,), 0, {0: 1}, {}, (0, [1])]
        for group in wrong + [value for value in any_values() if value != (0,)]:
            raised(BadGroup, bounds_over, WEB, FAMILY, group, (0, 0))
            raised(BadGroup, bounds_over, WEB, FAMILY, group, None)
        raised(BadGroup, bounds_over, CHAIN, [ones(heading, (0, 0)) for heading in CHAIN], (0, 2), (0, 0, 0, 0))

    def test_bad_row_of_the_groups_columns(self):
        for row in any_values() + [(0,), (0, 0, 1), [0, 0], (0, True)]:
            self.assertEqual(raised(BadRow, bounds_over, WEB, FAMILY, (0,), row).number, 0)
        self.assertEqual(raised(BadRow, bounds_over, WEB, FAMILY, (0, 1), (0, 0)).number, 0)

    def test_sums_of_all_wholes_show_them(self):
        rng = drawn(705)
        many = wide = 0
        for n in range(90):
            web = grown_web(rng) if n % 4 else folding_web(rng, most_headings=4, most_columns=4)
            family = small_family(rng, web)
            columns, wholes = columns_of(web), all_tables_of(web, family)
            for group in all_groups(web):
                heading = columns_of(tuple([web[x] for x in group]))
                summed = [sum_of(columns, counts, heading) for counts in wholes]
                for row in sorted({row for told in summed for row in told})[:6]:
                    told = sorted({one.get(row, 0) for one in summed})
                    low, high = bounds_over(web, family, group, row)
                    self.assertEqual(told, list(range(low, high + 1)))
                    many += 1
                    wide += low < high
                    if len(group) == 1:
                        self.assertEqual((low, high), (family[group[0]].times(row),) * 2)
                    if len(group) == len(web):
                        self.assertEqual((low, high), (least(web, family, row), greatest(web, family, row)))
        self.assertGreater(many, 500)
        self.assertGreater(wide, 30)

    def test_groups_over_cored(self):
        for web in (RING, SHELL):
            self.assertEqual(raised(Cored, groups_over, web, ("a", "b")).core, core(web))
        rng = drawn(706)
        for _ in range(20):
            web = cored_web(rng)
            self.assertEqual(raised(Cored, groups_over, web, ()).core, core(web))

    def test_a_sum_of_a_whole(self):
        table = ones(("a", "b", "c", "d"), (0, 0, 0, 0), (1, 1, 0, 1), (1, 0, 1, 1))
        family = sums(CHAIN, table)
        self.assertEqual(bounds_over(CHAIN, family, (0, 1), (0, 0, 0)), (0, 1))
        self.assertEqual(bounds_over(CHAIN, family, (1, 2), (1, 0, 0)), (0, 1))


if __name__ == "__main__":
    unittest.main()
