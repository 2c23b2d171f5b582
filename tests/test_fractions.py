"""[5.1] and [5.2]: fractions and shares."""

import unittest
from fractions import Fraction

from agreetwo.errors import BadNumber, Empty
from agreetwo.fractions import fraction, is_less, minus, multiplied, over, plus, share, shares
from agreetwo.tables import Table
from tests.support import AB, LEFT, any_values, drawn, drawn_table, raised
from tests.tableways import pair

COIN = Table(("a",), [((0,), 3), ((1,), 1)])
GREAT = 10 ** 40 + 7


def drawn_fraction(rng):
    most = rng.choice([3, 20, 10 ** 9, 10 ** 45])
    return pair(Fraction(rng.randint(-most, most), rng.randint(1, most)))


class Fractions(unittest.TestCase):
    def test_lowest_terms(self):
        for p, q, told in [(4, -6, (-2, 3)), (4, 6, (2, 3)), (-4, -6, (2, 3)), (-4, 6, (-2, 3)), (0, 5, (0, 1)),
                           (0, -5, (0, 1)), (7, 7, (1, 1)), (7, 1, (7, 1)), (7, -1, (-7, 1)), (1, 9, (1, 9)),
                           (GREAT * 6, GREAT * 4, (3, 2)), (GREAT, -GREAT * 3, (-1, 3)), (10 ** 60, 1, (10 ** 60, 1))]:
            self.assertEqual(fraction(p, q), told)
            self.assertIsInstance(fraction(p, q), tuple)

    def test_nothing_is_divided_by_0(self):
        for p in (0, 1, -5, GREAT):
            error = raised(BadNumber, fraction, p, 0)
            self.assertEqual(error.number, 0)
            self.assertIs(error.number.__class__, int)

    def test_sums_and_products_by_hand(self):
        self.assertEqual(plus((1, 2), (1, 3)), (5, 6))
        self.assertEqual(plus((1, 2), (-1, 2)), (0, 1))
        self.assertEqual(plus((1, 6), (1, 3)), (1, 2))
        self.assertEqual(minus((1, 3), (1, 2)), (-1, 6))
        self.assertEqual(minus((1, 3), (1, 3)), (0, 1))
        self.assertEqual(multiplied((2, 3), (3, 4)), (1, 2))
        self.assertEqual(multiplied((2, 3), (0, 1)), (0, 1))
        self.assertEqual(over((1, 2), (1, 4)), (2, 1))
        self.assertEqual(over((1, 2), (-1, 4)), (-2, 1))
        self.assertEqual(over((0, 1), (-5, 4)), (0, 1))

    def test_over_0_whatever_one_is(self):
        for one in [(0, 1), (1, 2), (-3, 1), (GREAT, 3)]:
            self.assertEqual(raised(BadNumber, over, one, (0, 1)).number, (0, 1))

    def test_is_less(self):
        for one, other, told in [((1, 3), (1, 2), True), ((1, 2), (1, 3), False), ((1, 2), (1, 2), False),
                                 ((-1, 2), (-1, 3), True), ((-1, 3), (-1, 2), False), ((-1, 2), (0, 1), True),
                                 ((0, 1), (0, 1), False), ((GREAT, GREAT + 1), (GREAT + 1, GREAT + 2), True)]:
            self.assertIs(is_less(one, other), told)

    def test_drawn(self):
        rng = drawn(361)
        for _ in range(400):
            one, other = drawn_fraction(rng), drawn_fraction(rng)
            left, right = Fraction(*one), Fraction(*other)
            self.assertEqual(plus(one, other), pair(left + right))
            self.assertEqual(minus(one, other), pair(left - right))
            self.assertEqual(multiplied(one, other), pair(left * right))
            self.assertIs(is_less(one, other), left < right)
            if other[0] != 0:
                self.assertEqual(over(one, other), pair(left / right))
            k = rng.choice([-1, 1]) * rng.randint(1, 10 ** 6)
            self.assertEqual(fraction(one[0] * k, one[1] * k), one)


class Shares(unittest.TestCase):
    def test_by_hand(self):
        self.assertEqual([share(COIN, (0,)), share(COIN, (7,)), shares(COIN)],
                         [(3, 4), (0, 1), [((0,), (3, 4)), ((1,), (1, 4))]])
        self.assertEqual(shares(LEFT), [((0, 1), (5, 6)), ((2, 2), (1, 6))])
        self.assertEqual(share(Table((), [((), 9)]), ()), (1, 1))
        self.assertEqual(shares(Table((), [((), 9)])), [((), (1, 1))])

    def test_any_value_that_is_no_row(self):
        for value in any_values() + [(1,), [0, 1], (0, True), (False, 1), (0, 1, 0), (0, 2), {(0, 1): 1}]:
            is_row = value == (0, 1) and not [part for part in value if isinstance(part, bool)]
            self.assertEqual(share(LEFT, value), (5, 6) if is_row and isinstance(value, tuple) else (0, 1), value)
        self.assertEqual(share(COIN, (True,)), (0, 1))
        self.assertEqual(share(COIN, [0]), (0, 1))

    def test_empty_ahead_of_all_else(self):
        for table in (Table((), []), Table(AB, []), Table(AB, [((0, 0), 0)])):
            raised(Empty, shares, table)
            for value in any_values() + [(0, 0)]:
                raised(Empty, share, table, value)

    def test_great_counts(self):
        table = Table(("a",), [((0,), 10 ** 30 - 1), ((1,), 2 * (10 ** 30 - 1))])
        self.assertEqual(shares(table), [((0,), (1, 3)), ((1,), (2, 3))])

    def test_drawn(self):
        rng = drawn(362)
        for _ in range(60):
            table = drawn_table(rng, AB)
            if table.total() == 0:
                continue
            told = [(row, pair(Fraction(count, table.total()))) for row, count in table.counts()]
            self.assertEqual(shares(table), told)
            self.assertEqual([(row, share(table, row)) for row in table], told)
            total = (0, 1)
            for _, one in told:
                total = plus(total, one)
            self.assertEqual(total, (1, 1))

    def test_returned_lists_are_new(self):
        shares(COIN).clear()
        self.assertEqual(len(shares(COIN)), 2)


if __name__ == "__main__":
    unittest.main()
