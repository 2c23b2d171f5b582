"""[8.1] and [8.2]: exchanges of two rows, and tuples of them that lead from one table to another one."""

import unittest

from agreetwo.errors import BadExchange, TooFew
from agreetwo.exchanges import exchanged, judge_exchanges
from agreetwo.families import sums
from agreetwo.headings import shared
from agreetwo.tables import Table
from agreetwo.webs import columns_of
from tests.support import (AB, BC, RING, any_values, cored_web, drawn, drawn_table, drawn_web, grown_web, ones,
                           raised)
from tests.tableways import all_headings, values_of

PATH, ABC = (AB, BC), ("a", "b", "c")
TWO = Table(ABC, [((0, 5, 0), 3), ((1, 5, 1), 2)])
FIRST = ((0, 5, 0), (1, 5, 1), ("a",), 1)
MOST = 10 ** 30 - 1


def slow_exchange(web, table, exchange):
    """[8.1], as a pair of the error's name and what it bears, or of None and the counts behind."""
    one, other, side, n = exchange
    columns = columns_of(web)
    left, right = values_of(columns, one), values_of(columns, other)
    unlike = {column for column in columns if left[column] != right[column]}
    for x, heading in enumerate(web):
        if unlike & set(heading) & set(side) and unlike & set(heading) - set(side):
            return "BadExchange", x
    if not unlike & set(side) or not unlike - set(side):
        return "BadExchange", None
    for row in (one, other):
        if table.times(row) < n:
            return "TooFew", row
    counts = dict(table.counts())
    for row in (one, other):
        counts[row] -= n
    for mine, theirs in ((left, right), (right, left)):
        row = tuple([theirs[column] if column in side else mine[column] for column in columns])
        counts[row] = counts.get(row, 0) + n
    return None, sorted([(row, count) for row, count in counts.items() if count])


def told_of(web, table, exchange):
    """What exchanged makes or raises, in the same form."""
    try:
        return None, exchanged(web, table, exchange).counts()
    except BadExchange as error:
        return error.called, error.number
    except TooFew as error:
        return error.called, error.row


def drawn_exchange(rng, web, table):
    """An exchange of a web, mostly of rows of the table, mostly with a side that some headings see as a whole."""
    columns = columns_of(web)
    rows = table.rows() + [tuple([rng.randint(0, 1) for _ in columns])]
    one, other = rng.choice(rows), rng.choice(rows)
    side = rng.choice(all_headings(columns))
    if rng.random() < 0.5:
        heading = rng.choice(web)
        side = tuple([column for column in columns if column in heading and column in side]) or heading
    return one, other, side, rng.choice([1, 1, 2, 5])


class Exchanged(unittest.TestCase):
    def test_by_hand(self):
        self.assertEqual(exchanged(PATH, TWO, FIRST).counts(),
                         [((0, 5, 0), 2), ((0, 5, 1), 1), ((1, 5, 0), 1), ((1, 5, 1), 1)])
        self.assertEqual(exchanged(PATH, TWO, FIRST[:3] + (2,)).counts(),
                         [((0, 5, 0), 1), ((0, 5, 1), 2), ((1, 5, 0), 2)])
        self.assertEqual(exchanged(PATH, TWO, (FIRST[1], FIRST[0], ("b", "c"), 2)).counts(),
                         [((0, 5, 0), 1), ((0, 5, 1), 2), ((1, 5, 0), 2)])
        self.assertEqual(exchanged(PATH, TWO, FIRST[:2] + (("a", "b"), 1)), exchanged(PATH, TWO, FIRST))

    def test_counts_are_added_to_rows_that_are_there(self):
        table = TWO + Table(ABC, [((0, 5, 1), 4)])
        self.assertEqual(exchanged(PATH, table, FIRST).counts(),
                         [((0, 5, 0), 2), ((0, 5, 1), 5), ((1, 5, 0), 1), ((1, 5, 1), 1)])

    def test_great_counts(self):
        table = Table(ABC, [((0, 5, 0), MOST), ((1, 5, 1), MOST)])
        self.assertEqual(exchanged(PATH, table, FIRST[:3] + (MOST,)).counts(), [((0, 5, 1), MOST), ((1, 5, 0), MOST)])
        self.assertEqual(raised(TooFew, exchanged, PATH, table, FIRST[:3] + (MOST + 1,)).row, (0, 5, 0))

    def test_a_heading_that_sees_a_part(self):
        table = ones(ABC, (0, 5, 0), (1, 6, 1))
        self.assertEqual(raised(BadExchange, exchanged, PATH, table, ((0, 5, 0), (1, 6, 1), ("a",), 1)).number, 0)
        self.assertEqual(raised(BadExchange, exchanged, PATH, table, ((0, 5, 0), (1, 6, 1), ("c",), 1)).number, 1)
        self.assertEqual(raised(BadExchange, exchanged, PATH, table, ((0, 5, 0), (1, 6, 1), ("b",), 1)).number, 0)
        # Where the two are alike, nothing is to be seen.
        self.assertEqual(exchanged((("a", "b"), ("c",)), table, ((0, 5, 0), (1, 6, 1), ("a", "b"), 1)).rows(),
                         [(0, 5, 1), (1, 6, 0)])

    def test_nothing_turned(self):
        for one, other, side in [((0, 5, 0), (0, 5, 0), ("a",)), ((0, 5, 0), (1, 5, 1), ()), ((0, 5, 0), (1, 5, 1), ABC),
                                 ((0, 5, 0), (1, 5, 1), ("b",)), ((0, 5, 0), (1, 5, 1), ("a", "c")),
                                 ((0, 5, 0), (0, 5, 0), ()), ((0, 5, 0), (0, 5, 0), ABC), ((0, 5, 0), (0, 5, 1), ("c",))]:
            self.assertIsNone(raised(BadExchange, exchanged, PATH, TWO, (one, other, side, 1)).number)
        self.assertIsNone(raised(BadExchange, exchanged, ((),), Table((), [((), 3)]), ((), (), (), 1)).number)

    def test_too_few_one_ahead_of_other(self):
        self.assertEqual(raised(TooFew, exchanged, PATH, TWO, FIRST[:3] + (3,)).row, (1, 5, 1))
        self.assertEqual(raised(TooFew, exchanged, PATH, TWO, FIRST[:3] + (4,)).row, (0, 5, 0))
        self.assertEqual(raised(TooFew, exchanged, PATH, TWO, (FIRST[1], FIRST[0], ("a",), 4)).row, (1, 5, 1))
        self.assertEqual(raised(TooFew, exchanged, PATH, Table(ABC, []), FIRST).row, (0, 5, 0))
        self.assertEqual(raised(TooFew, exchanged, PATH, TWO, ((7, 5, 7), (0, 5, 0), ("a",), 1)).row, (7, 5, 7))

    def test_the_order_of_the_errors(self):
        none = Table(ABC, [])
        self.assertEqual(raised(BadExchange, exchanged, PATH, none, ((0, 5, 0), (1, 6, 1), ("a",), 9)).number, 0)
        self.assertIsNone(raised(BadExchange, exchanged, PATH, none, ((0, 5, 0), (1, 5, 1), (), 9)).number)
        # A heading that sees a part, and none of both is seen: no exchange can be both.
        self.assertEqual(raised(BadExchange, exchanged, (ABC, AB), none, ((0, 5, 0), (1, 5, 1), ("a",), 9)).number, 0)

    def test_drawn(self):
        rng = drawn(801)
        told = {}
        for n in range(900):
            web = cored_web(rng, "abcd") if n % 9 == 0 else drawn_web(rng, 4, 5, 2)
            web = web if n % 3 == 0 else grown_web(rng, 4, 5)
            table = drawn_table(rng, columns_of(web), rows=8, values=1, most=5)
            exchange = drawn_exchange(rng, web, table)
            expected = slow_exchange(web, table, exchange)
            self.assertEqual(told_of(web, table, exchange), expected, (web, exchange))
            if expected[0] is None:
                self.assertEqual(sums(web, exchanged(web, table, exchange)), sums(web, table))
            key = (expected[0], expected[1] is None)
            told[key] = told.get(key, 0) + 1
        for key in [(None, False), ("BadExchange", True), ("BadExchange", False), ("TooFew", False)]:
            self.assertGreater(told[key], 40, told)

    def test_nothing_that_is_passed_changes(self):
        exchanged(PATH, TWO, FIRST)
        self.assertEqual(TWO.counts(), [((0, 5, 0), 3), ((1, 5, 1), 2)])


class JudgeExchanges(unittest.TestCase):
    def test_by_hand(self):
        self.assertIsNone(judge_exchanges(PATH, TWO, (), TWO))
        self.assertEqual(judge_exchanges(PATH, TWO, (), Table(ABC, [])), ("end",))
        other = exchanged(PATH, TWO, FIRST)
        self.assertIsNone(judge_exchanges(PATH, TWO, (FIRST,), other))
        self.assertEqual(judge_exchanges(PATH, TWO, (FIRST,), TWO), ("end",))
        self.assertEqual(judge_exchanges(PATH, TWO, (FIRST, FIRST), other), ("end",))
        self.assertIsNone(judge_exchanges(PATH, TWO, (FIRST, FIRST), exchanged(PATH, other, FIRST)))
        self.assertEqual(judge_exchanges(PATH, TWO, (FIRST, FIRST, FIRST), other), ("exchange", 2))
        back = ((0, 5, 1), (1, 5, 0), ("a",), 1)
        self.assertIsNone(judge_exchanges(PATH, TWO, (FIRST, back), TWO))
        self.assertEqual(judge_exchanges(PATH, TWO, (back, FIRST), TWO), ("exchange", 0))

    def test_each_exchange_that_raises(self):
        for wrong in [((0, 5, 0), (0, 5, 0), ("a",), 1), FIRST[:2] + ((), 1), FIRST[:2] + (ABC, 1),
                      FIRST[:3] + (10 ** 39,), ((0, 5, 0), (1, 6, 1), ("a",), 1)]:
            self.assertEqual(judge_exchanges(PATH, TWO, (wrong,), TWO), ("exchange", 0))
            self.assertEqual(judge_exchanges(PATH, TWO, (FIRST, wrong), TWO), ("exchange", 1))

    def test_values_that_are_no_tuple(self):
        for value in any_values():
            if not isinstance(value, tuple):
                self.assertEqual(judge_exchanges(PATH, TWO, value, TWO), ("form", None), value)
        self.assertEqual(judge_exchanges(PATH, TWO, [FIRST], exchanged(PATH, TWO, FIRST)), ("form", None))
        self.assertEqual(judge_exchanges(PATH, TWO, [], TWO), ("form", None))

    def test_entries_without_the_form(self):
        one, other, side, n = FIRST
        wrong = [list(FIRST), FIRST[:3], FIRST + (1,), (list(one), other, side, n), (one, list(other), side, n),
                 (one, other, list(side), n), (one, other, side, True), (one, other, side, 0), (one, other, side, -1),
                 (one, other, side, "1"), (one, other, side, None), (one, other, side, (1,)), (one, other, ("d",), n),
                 (one, other, ("c", "a"), n), (one, other, ("a", "a"), n), (one, other, "a", n), (one, other, None, n),
                 (one, (1, 5), side, n), (one, (1, 5, 1, 1), side, n), (one, (1, 5, True), side, n),
                 ((0, 5, False), other, side, n), ((0, 5, 100), other, side, n), (one, (-1, 5, 1), side, n),
                 (None, other, side, n), (one, other, (True,), n), (one, other, ("a", ("b",)), n)]
        for value in wrong + any_values():
            self.assertEqual(judge_exchanges(PATH, TWO, (value,), TWO), ("form", 0), value)
            self.assertEqual(judge_exchanges(PATH, TWO, (FIRST, value), TWO), ("form", 1), value)
            # All forms are looked at ahead of the first exchange, though this one could not be done.
            self.assertEqual(judge_exchanges(PATH, TWO, (FIRST[:3] + (9,), value, value), TWO), ("form", 1), value)

    def test_sides_of_no_and_of_all_columns_have_the_form(self):
        self.assertEqual(judge_exchanges(PATH, TWO, (FIRST[:2] + ((), 1),), TWO), ("exchange", 0))
        self.assertEqual(judge_exchanges(PATH, TWO, (FIRST[:2] + (ABC, 1),), TWO), ("exchange", 0))
        self.assertEqual(judge_exchanges(((),), Table((), []), (((), (), (), 1),), Table((), [])), ("exchange", 0))
        self.assertEqual(judge_exchanges(((),), Table((), []), (((), (), (), 0),), Table((), [])), ("form", 0))

    def test_drawn(self):
        rng = drawn(802)
        told = {}
        for n in range(200):
            web = grown_web(rng, 4, 5)
            if n % 4 == 0:
                web = RING
            table = drawn_table(rng, columns_of(web), rows=8, values=1, most=4)
            made, value, expected = table, [], None
            for k in range(rng.randint(0, 4)):
                for _ in range(200):
                    exchange = drawn_exchange(rng, web, made)
                    if slow_exchange(web, made, exchange)[0] is None or rng.random() < 0.004:
                        break
                value.append(exchange)
                if expected is None:
                    name, counts = slow_exchange(web, made, exchange)
                    if name is None:
                        made = Table(columns_of(web), counts)
                    else:
                        expected = ("exchange", k)
            other = made if n % 3 else table
            if expected is None and other != made:
                expected = ("end",)
            self.assertEqual(judge_exchanges(web, table, tuple(value), other), expected)
            told[expected and expected[0]] = told.get(expected and expected[0], 0) + 1
        for key in (None, "exchange", "end"):
            self.assertGreater(told[key], 10, told)

    def test_a_heading_sees_both_rows_turned_or_none(self):
        rng = drawn(803)
        many = 0
        for _ in range(600):
            web = grown_web(rng, 4, 5)
            table = drawn_table(rng, columns_of(web), rows=8, values=1, most=4)
            one, other, side, n = drawn_exchange(rng, web, table)
            if judge_exchanges(web, table, ((one, other, side, n),), table) == ("end",):
                many += 1
                columns = columns_of(web)
                unlike = tuple([column for column, a, b in zip(columns, one, other) if a != b])
                for heading in web:
                    self.assertIn(shared(shared(heading, unlike), side), ((), shared(heading, unlike)))
        self.assertGreater(many, 10)


if __name__ == "__main__":
    unittest.main()
