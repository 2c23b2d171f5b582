"""[1.2] to [1.5]: tables, their arithmetic, sums, and what agrees and meets."""

import unittest
from collections import Counter

from agreetwo.errors import BadHeading, BadNumber, BadRow, TooFew, UnlikeHeadings
from agreetwo.headings import shared
from agreetwo.tables import Table, agree, is_within, meet, summed, support
from tests.support import AB, BC, LEFT, RIGHT, any_values, drawn, drawn_heading, drawn_table, raised

BIG = 10 ** 30 - 1


def counter_of(table):
    return Counter(dict(table.counts()))


def rows_of(counter):
    return sorted([(row, count) for row, count in counter.items() if count])


def summed_counter(table, columns):
    """The sum of a table, made straight from what [1.4] says."""
    places = [k for k, column in enumerate(table.heading()) if column in columns]
    found = Counter()
    for row, count in table.counts():
        found[tuple([row[k] for k in places])] += count
    return found


class Making(unittest.TestCase):
    def test_counts_are_added_and_noughts_left_out(self):
        table = Table(AB, [((5, 5), 0), ((2, 2), 1), ((0, 9), 3), ((2, 2), 4), ((0, 10), 1), ((2, 2), 0)])
        self.assertEqual(table.heading(), AB)
        self.assertEqual(table.rows(), [(0, 9), (0, 10), (2, 2)])
        self.assertEqual(table.counts(), [((0, 9), 3), ((0, 10), 1), ((2, 2), 5)])
        self.assertEqual([len(table), table.total()], [3, 9])
        self.assertEqual([table.times((2, 2)), table.times((0, 9)), table.times((5, 5)), table.times((1, 1))],
                         [5, 3, 0, 0])
        self.assertEqual([(2, 2) in table, (5, 5) in table, (1, 1) in table], [True, False, False])
        self.assertEqual([row for row in table], table.rows())
        self.assertEqual(list(iter(table)), table.rows())

    def test_without_rows(self):
        for counts in ([], (), [((1, 1), 0)], [((1, 1), 0), ((1, 1), 0)]):
            table = Table(AB, counts)
            self.assertEqual([table.rows(), table.counts(), len(table), table.total(), list(table)], [[], [], 0, 0, []])

    def test_no_columns(self):
        table = Table((), [((), 2), ((), 3)])
        self.assertEqual([table.rows(), table.counts(), len(table), table.total()], [[()], [((), 5)], 1, 5])
        self.assertEqual([() in table, table.times(()), table.times((0,))], [True, 5, 0])
        self.assertEqual([() in Table((), []), Table((), [((), 0)]).rows()], [False, []])

    def test_great_counts_and_values(self):
        table = Table(("a",), [((99,), BIG), ((0,), BIG), ((99,), BIG)])
        self.assertEqual(table.counts(), [((0,), BIG), ((99,), 2 * BIG)])
        self.assertEqual(table.total(), 3 * BIG)

    def test_a_tuple_of_entries(self):
        self.assertEqual(Table(AB, (((0, 1), 3),)).counts(), [((0, 1), 3)])

    def test_nothing_passed_is_kept_or_changed(self):
        counts = [((0, 1), 3), ((0, 1), 2), ((0, 0), 0)]
        table = Table(AB, counts)
        self.assertEqual(counts, [((0, 1), 3), ((0, 1), 2), ((0, 0), 0)])
        counts.append(((9, 9), 1))
        counts[0] = ((8, 8), 1)
        self.assertEqual(table.counts(), [((0, 1), 5)])

    def test_returned_lists_are_new(self):
        table = Table(AB, [((0, 1), 3), ((2, 2), 1)])
        table.rows().clear()
        table.counts().clear()
        self.assertEqual([table.rows(), table.counts()], [[(0, 1), (2, 2)], [((0, 1), 3), ((2, 2), 1)]])
        self.assertIsNot(table.rows(), table.rows())
        self.assertIsInstance(table.rows(), list)
        self.assertIsInstance(table.counts(), list)


class WrongMaking(unittest.TestCase):
    def test_bad_heading(self):
        for value in any_values() + [["a", "b"], ("b", "a"), ("a", "a"), "ab", tuple("abcdefghi"), (["a"],)]:
            if isinstance(value, Table) or value in [(), ("a",)]:
                continue
            self.assertEqual(raised(BadHeading, Table, value, []).heading, value)

    def test_bad_heading_bears_a_copy(self):
        heading = ["a", ["b"]]
        error = raised(BadHeading, Table, heading, [])
        heading[1].append("c")
        self.assertEqual(error.heading, ["a", ["b"]])

    def test_bad_heading_comes_first(self):
        self.assertEqual(raised(BadHeading, Table, ("b", "a"), ["no entry"]).heading, ("b", "a"))

    def test_bad_entries(self):
        good = ((1, 2), 3)
        wrong = [[(1, 2), 3], ((1, 2),), ((1, 2), 3, 4), ([1, 2], 3), ((1,), 3), ((1, 2, 3), 3), ((), 1), ((1, 100), 3),
                 ((-1, 2), 3), ((True, 2), 3), ((1, False), 3), (("1", 2), 3), ((None, 2), 3), ((1, 2), -1),
                 ((1, 2), True), ((1, 2), False), ((1, 2), None), ((1, 2), "3"), ((1, 2), [3]), (3, (1, 2)), (1, 2),
                 ((1, [2]), 3), ((1, (2,)), 3), {(1, 2): 3}, "ab"]
        for entry in wrong + any_values():
            self.assertEqual(raised(BadRow, Table, AB, [entry]).number, 0, entry)
            self.assertEqual(raised(BadRow, Table, AB, [good, good, entry, good, entry]).number, 2, entry)

    def test_bad_entries_over_no_columns(self):
        self.assertEqual(raised(BadRow, Table, (), [((), 1), ((0,), 1)]).number, 1)
        self.assertEqual(raised(BadRow, Table, (), [([], 1)]).number, 0)

    def test_an_equal_row_ahead_does_not_excuse(self):
        self.assertEqual(raised(BadRow, Table, ("a",), [((1,), 2), ((True,), 2)]).number, 1)


class Asking(unittest.TestCase):
    def test_any_value(self):
        table = Table(("a",), [((0,), 3), ((1,), 2)])
        for value in any_values():
            expected = 3 if isinstance(value, tuple) and value == (0,) else 0
            if value == (True,):
                expected = 0
            self.assertEqual(table.times(value), expected, value)
            self.assertIs(value in table, expected > 0, value)

    def test_true_and_lists_are_no_rows(self):
        for value in [(True, 0), (1, False), [1, 0], ((1, 0),), (1,), (1, 0, 0), ([1], 0), (1, {})]:
            self.assertEqual(Table(AB, [((1, 0), 2)]).times(value), 0)
            self.assertIs(value in Table(AB, [((1, 0), 2)]), False)


class Equal(unittest.TestCase):
    def test_equal_and_not(self):
        one = Table(AB, [((0, 1), 3), ((2, 2), 1)])
        self.assertTrue(one == Table(AB, [((2, 2), 1), ((0, 1), 1), ((0, 1), 2), ((7, 7), 0)]))
        self.assertFalse(one != Table(AB, [((2, 2), 1), ((0, 1), 3)]))
        for other in [Table(AB, [((0, 1), 3)]), Table(AB, [((0, 1), 3), ((2, 2), 2)]),
                      Table(BC, [((0, 1), 3), ((2, 2), 1)]), Table(AB, []), Table(AB, [((0, 1), 3), ((2, 3), 1)])]:
            self.assertFalse(one == other)
            self.assertFalse(other == one)
            self.assertTrue(one != other)
        self.assertFalse(Table(AB, []) == Table(BC, []))
        self.assertFalse(Table((), []) == Table(("a",), []))

    def test_nothing_else_is_equal(self):
        one = Table(("a",), [((1,), 2)])
        for value in any_values() + [[((1,), 2)], {(1,): 2}, (("a",), [((1,), 2)]), one.rows()]:
            if not isinstance(value, Table):
                self.assertFalse(one == value)
                self.assertFalse(value == one)
                self.assertTrue(one != value)


class Arithmetic(unittest.TestCase):
    def test_drawn(self):
        rng = drawn(21)
        for _ in range(200):
            heading = drawn_heading(rng, "abc")
            one, other = drawn_table(rng, heading), drawn_table(rng, heading)
            n = rng.choice([0, 1, 2, BIG])
            self.assertEqual((one + other).counts(), rows_of(counter_of(one) + counter_of(other)))
            self.assertEqual(((one + other) - other).counts(), one.counts())
            self.assertEqual((one * n).counts(), rows_of({row: count * n for row, count in one.counts()}))
            self.assertEqual((n * one).counts(), (one * n).counts())
            self.assertEqual((one + other).heading(), heading)
            self.assertEqual((one - one).counts(), [])

    def test_tables_do_not_change(self):
        one, other = Table(AB, [((0, 1), 3), ((2, 2), 1)]), Table(AB, [((0, 1), 3)])
        self.assertEqual((one + other).counts(), [((0, 1), 6), ((2, 2), 1)])
        self.assertEqual((one - other).counts(), [((2, 2), 1)])
        self.assertEqual((one * 2).counts(), (2 * one).counts())
        self.assertEqual([one.counts(), other.counts()], [[((0, 1), 3), ((2, 2), 1)], [((0, 1), 3)]])

    def test_nought_times(self):
        self.assertEqual([(LEFT * 0).counts(), (0 * LEFT).heading(), (LEFT * 0).total()], [[], AB, 0])

    def test_unlike_headings_come_first(self):
        for other in (RIGHT, Table((), []), Table(("a",), []), Table(("a", "b", "c"), [])):
            raised(UnlikeHeadings, lambda: LEFT + other)
            raised(UnlikeHeadings, lambda: other + LEFT)
            raised(UnlikeHeadings, lambda: LEFT - other)
            raised(UnlikeHeadings, lambda: Table(AB, []) - other)

    def test_too_few_tells_the_first_row(self):
        one = Table(AB, [((0, 1), 3), ((2, 2), 1), ((5, 5), 1)])
        self.assertEqual(raised(TooFew, lambda: one - Table(AB, [((5, 5), 2), ((2, 2), 2), ((0, 1), 3)])).row, (2, 2))
        self.assertEqual(raised(TooFew, lambda: one - Table(AB, [((5, 5), 2), ((1, 7), 1)])).row, (1, 7))
        self.assertEqual(raised(TooFew, lambda: Table((), []) - Table((), [((), 1)])).row, ())

    def test_bad_numbers(self):
        for n in any_values():
            if isinstance(n, Table):
                continue
            if isinstance(n, int) and not isinstance(n, bool) and n >= 0:
                self.assertEqual((LEFT * n).total(), n * LEFT.total())
                continue
            for error in (raised(BadNumber, lambda: LEFT * n), raised(BadNumber, lambda: n * LEFT)):
                self.assertEqual(error.number, n)
                self.assertIs(error.number.__class__, n.__class__)

    def test_bad_number_bears_a_copy(self):
        n = [1, [2]]
        error = raised(BadNumber, lambda: n * LEFT)
        n[1].append(3)
        self.assertEqual(error.number, [1, [2]])


class Sums(unittest.TestCase):
    def test_by_hand(self):
        table = Table(("a", "b", "c"), [((0, 1, 2), 3), ((0, 2, 2), 4), ((1, 1, 2), 5)])
        self.assertEqual(summed(table, ("a",)).counts(), [((0,), 7), ((1,), 5)])
        self.assertEqual(summed(table, ("b", "d")).heading(), ("b",))
        self.assertEqual(summed(table, ("b", "d")).counts(), [((1,), 8), ((2,), 4)])
        self.assertEqual(summed(table, ()).counts(), [((), 12)])
        self.assertEqual(summed(table, ("x",)), Table((), [((), 12)]))
        self.assertEqual(summed(table, ("a", "b", "c")), table)
        self.assertEqual(summed(Table(AB, []), ("a",)), Table(("a",), []))
        self.assertEqual(summed(Table(AB, []), ()), Table((), []))
        self.assertEqual(table.counts()[0], ((0, 1, 2), 3))

    def test_drawn(self):
        rng = drawn(22)
        for _ in range(200):
            table, columns = drawn_table(rng, drawn_heading(rng, "abcd")), drawn_heading(rng, "abcde")
            made = summed(table, columns)
            self.assertEqual(made.heading(), shared(table.heading(), columns))
            self.assertEqual(made.counts(), rows_of(summed_counter(table, columns)))
            self.assertEqual(made.total(), table.total())
            self.assertEqual(support(table).counts(), [(row, 1) for row in table.rows()])
            self.assertEqual(support(table).heading(), table.heading())

    def test_is_within(self):
        one = Table(AB, [((0, 1), 3), ((2, 2), 1)])
        self.assertIs(is_within(one, one), True)
        self.assertIs(is_within(Table(AB, []), one), True)
        self.assertIs(is_within(one, Table(AB, [])), False)
        self.assertIs(is_within(Table(AB, [((0, 1), 2)]), one), True)
        self.assertIs(is_within(one, Table(AB, [((0, 1), 2)])), False)
        self.assertIs(is_within(one, Table(AB, [((0, 1), 3), ((2, 2), 1), ((3, 3), 1)])), True)
        self.assertIs(is_within(one, Table(AB, [((0, 1), 9), ((2, 3), 9)])), False)
        self.assertIs(is_within(Table(AB, [((9, 9), 1)]), one), False)
        self.assertIs(is_within(Table(AB, []), Table(BC, [])), False)
        self.assertIs(is_within(one, Table(BC, [((0, 1), 3), ((2, 2), 1)])), False)
        self.assertIs(is_within(Table((), [((), 2)]), Table((), [((), 3)])), True)


class Agreeing(unittest.TestCase):
    def test_by_hand(self):
        self.assertIsNone(agree(LEFT, RIGHT))
        self.assertIsNone(meet(LEFT, RIGHT))
        self.assertEqual(agree(LEFT, RIGHT + Table(BC, [((2, 9), 1)])), (2,))
        self.assertIsNone(meet(LEFT, RIGHT + Table(BC, [((2, 9), 1)])))
        self.assertEqual(agree(LEFT, RIGHT + Table(BC, [((0, 9), 1)])), (0,))
        self.assertEqual(meet(LEFT, RIGHT + Table(BC, [((0, 9), 1)])), (0,))
        self.assertEqual(meet(RIGHT + Table(BC, [((0, 9), 1)]), LEFT), (0,))
        self.assertEqual(agree(RIGHT - Table(BC, [((2, 0), 1)]), LEFT), (2,))

    def test_nothing_shared(self):
        one, other = Table(("a",), [((1,), 2), ((2,), 1)]), Table(("b",), [((5,), 3)])
        self.assertEqual([agree(one, other), meet(one, other)], [None, None])
        self.assertEqual([agree(one, other * 2), meet(one, other * 2)], [(), None])
        self.assertEqual([agree(one, other * 0), meet(one, other * 0)], [(), ()])
        self.assertEqual([agree(one * 0, other), meet(one * 0, other)], [(), ()])
        self.assertEqual([agree(one * 0, other * 0), meet(one * 0, other * 0)], [None, None])
        self.assertEqual([agree(one, Table((), [((), 3)])), agree(one, Table((), [((), 4)]))], [None, ()])

    def test_one_heading(self):
        one = Table(AB, [((0, 1), 3), ((2, 2), 1)])
        self.assertEqual([agree(one, one), meet(one, one * 5), agree(one, one * 5)], [None, None, (0, 1)])
        self.assertEqual(meet(one, Table(AB, [((0, 1), 3)])), (2, 2))

    def test_drawn(self):
        rng = drawn(23)
        told = Counter()
        for _ in range(400):
            one = drawn_table(rng, drawn_heading(rng, "abc"), rows=4, values=1, most=2)
            other = drawn_table(rng, drawn_heading(rng, "bcd"), rows=4, values=1, most=2)
            ones, others = summed_counter(one, other.heading()), summed_counter(other, one.heading())
            rows = sorted(set(ones) | set(others))
            unlike = [row for row in rows if ones[row] != others[row]]
            single = [row for row in rows if (ones[row] > 0) != (others[row] > 0)]
            self.assertEqual(agree(one, other), unlike[0] if unlike else None)
            self.assertEqual(agree(other, one), unlike[0] if unlike else None)
            self.assertEqual(meet(one, other), single[0] if single else None)
            self.assertEqual(meet(other, one), single[0] if single else None)
            told[bool(unlike), bool(single)] += 1
        self.assertEqual(sorted(told), [(False, False), (True, False), (True, True)])


if __name__ == "__main__":
    unittest.main()
