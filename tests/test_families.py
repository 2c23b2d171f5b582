"""[3.1]: families and wholes."""

import unittest

from agreetwo.errors import BadFamily
from agreetwo.families import check_family, disagreement, is_whole, sums
from agreetwo.joints import joint
from agreetwo.tables import Table, agree, summed
from agreetwo.webs import columns_of
from tests.support import (AB, BC, CHAIN, LEFT, RIGHT, RING, SHELL, any_values, drawn, drawn_table, drawn_web, raised)

PAIR = (AB, BC)
PARITY = [((0, 1), 1), ((1, 0), 1)]


class CheckFamily(unittest.TestCase):
    def test_families(self):
        self.assertIsNone(check_family(PAIR, [LEFT, RIGHT]))
        self.assertIsNone(check_family(PAIR, (LEFT, RIGHT)))
        self.assertIsNone(check_family(PAIR, [LEFT, RIGHT * 2]))
        self.assertIsNone(check_family(((),), [Table((), [])]))
        self.assertIsNone(check_family((AB, AB), [LEFT, Table(AB, [])]))

    def test_none(self):
        for value in [[], [LEFT], [LEFT, RIGHT, RIGHT], (), (LEFT,), None, 2, True, "ab", {0: LEFT, 1: RIGHT}, LEFT,
                      Table((), [((), 2)]), {}]:
            self.assertIsNone(raised(BadFamily, check_family, PAIR, value).number, value)

    def test_the_least_entry_that_is_wrong(self):
        for wrong in [LEFT, None, 0, True, "b", (), [], [RIGHT], RIGHT.counts(), Table((), []), Table(("b",), [])]:
            self.assertEqual(raised(BadFamily, check_family, PAIR, [LEFT, wrong]).number, 1)
            self.assertEqual(raised(BadFamily, check_family, PAIR, [wrong if wrong is not LEFT else RIGHT, wrong]).number,
                             0)
        self.assertEqual(raised(BadFamily, check_family, PAIR, [RIGHT, LEFT]).number, 0)
        self.assertEqual(raised(BadFamily, check_family, PAIR, (RIGHT, RIGHT)).number, 0)
        self.assertIsNone(raised(BadFamily, check_family, PAIR, [RIGHT]).number)

    def test_any_value(self):
        for value in any_values():
            if isinstance(value, tuple) and len(value) == 1 and isinstance(value[0], Table):
                self.assertIsNone(check_family(((),), value))
                continue
            error = raised(BadFamily, check_family, ((),), value)
            listed = isinstance(value, (list, tuple)) and len(value) == 1
            self.assertEqual(error.number, 0 if listed else None, value)

    def test_nothing_changes(self):
        family = [LEFT, RIGHT]
        check_family(PAIR, family)
        disagreement(PAIR, family)
        is_whole(PAIR, family, joint(LEFT, RIGHT))
        self.assertEqual(family, [LEFT, RIGHT])


class Disagreement(unittest.TestCase):
    def test_by_hand(self):
        self.assertIsNone(disagreement(PAIR, [LEFT, RIGHT]))
        self.assertIsNone(disagreement(PAIR, (LEFT, RIGHT)))
        self.assertEqual(disagreement(PAIR, [LEFT, RIGHT * 2]), (0, 1, (1,)))
        self.assertEqual(disagreement(PAIR, [LEFT, RIGHT + Table(BC, [((2, 0), 1)])]), (0, 1, (2,)))
        self.assertIsNone(disagreement((AB,), [LEFT]))
        self.assertIsNone(disagreement(((),), [Table((), [])]))

    def test_the_first_pair(self):
        one, two, three = (Table(("a",), [((0,), n)]) for n in (1, 2, 3))
        web = (("a",),) * 3
        self.assertEqual(disagreement(web, [one, one, two]), (0, 2, (0,)))
        self.assertEqual(disagreement(web, [one, two, two]), (0, 1, (0,)))
        self.assertEqual(disagreement(web, [one, two, one]), (0, 1, (0,)))
        self.assertEqual(disagreement(web, [one, two, three]), (0, 1, (0,)))
        apart = (("a", "b"), ("b", "c"), ("c", "d"))
        tables = [Table(("a", "b"), [((0, 0), 1)]), Table(("b", "c"), [((0, 0), 1)]), Table(("c", "d"), [((5, 0), 1)])]
        self.assertEqual(disagreement(apart, tables), (1, 2, (0,)))

    def test_totals_of_headings_that_share_nothing(self):
        self.assertEqual(disagreement((("a",), ("b",)), [Table(("a",), [((0,), 2)]), Table(("b",), [((0,), 3)])]),
                         (0, 1, ()))

    def test_drawn(self):
        rng = drawn(91)
        told = {True: 0, False: 0}
        for _ in range(200):
            web = drawn_web(rng, most_headings=3, most_columns=4, widest=2)
            family = [drawn_table(rng, heading, rows=3, values=1, most=2) for heading in web]
            pairs = [(x, y) for x in range(len(web)) for y in range(x + 1, len(web))]
            unlike = [(x, y, agree(family[x], family[y])) for x, y in pairs if agree(family[x], family[y]) is not None]
            self.assertEqual(disagreement(web, family), unlike[0] if unlike else None)
            told[bool(unlike)] += 1
        self.assertGreater(min(told.values()), 10)


class Wholes(unittest.TestCase):
    def test_sums(self):
        table = Table(("a", "b", "c"), [((0, 1, 2), 3), ((0, 1, 4), 1), ((5, 1, 2), 2)])
        self.assertEqual([one.counts() for one in sums(PAIR, table)],
                         [[((0, 1), 4), ((5, 1), 2)], [((1, 2), 5), ((1, 4), 1)]])
        self.assertEqual([one.heading() for one in sums(SHELL, table)], list(SHELL))
        self.assertEqual(sums(((),), Table((), [((), 3)])), [Table((), [((), 3)])])
        self.assertEqual(sums((AB, (), AB), LEFT), [LEFT, Table((), [((), 6)]), LEFT])
        self.assertIsInstance(sums(PAIR, table), list)

    def test_sums_are_families_that_agree(self):
        rng = drawn(92)
        for _ in range(150):
            web = drawn_web(rng)
            table = drawn_table(rng, columns_of(web), rows=8, values=1)
            family = sums(web, table)
            self.assertIsNone(check_family(web, family))
            self.assertIsNone(disagreement(web, family))
            self.assertEqual(family, [summed(table, heading) for heading in web])
            self.assertIs(is_whole(web, family, table), True)
            self.assertIs(is_whole(web, tuple(family), table), True)
            self.assertIs(is_whole(web, family, table + Table(columns_of(web), [((0,) * len(columns_of(web)), 1)])),
                          False)

    def test_is_whole(self):
        whole = joint(LEFT, RIGHT)
        self.assertIs(is_whole(PAIR, [LEFT, RIGHT], whole), True)
        self.assertIs(is_whole(PAIR, (LEFT, RIGHT), whole), True)
        self.assertIs(is_whole(PAIR, [LEFT, RIGHT], whole * 2), False)
        self.assertIs(is_whole(PAIR, [LEFT, RIGHT * 2], whole), False)
        self.assertIs(is_whole(PAIR, [LEFT * 2, RIGHT], whole), False)
        self.assertIs(is_whole(PAIR, [LEFT, RIGHT], LEFT), False)
        self.assertIs(is_whole(PAIR, [LEFT, RIGHT], Table(("a", "b", "c", "d"), [])), False)
        self.assertIs(is_whole(PAIR, [LEFT, RIGHT], Table(("a", "b", "x"), whole.counts())), False)

    def test_no_heading_holds_all_columns_of_a_whole(self):
        self.assertIs(is_whole((AB, ("b",)), [LEFT, summed(LEFT, ("b",))], LEFT), True)
        self.assertIs(is_whole((AB, ("b",)), [LEFT, summed(LEFT, ("a",))], LEFT), False)

    def test_any_value_as_a_whole(self):
        for value in any_values() + [[LEFT, RIGHT], (joint(LEFT, RIGHT),), joint(LEFT, RIGHT).counts()]:
            self.assertIs(is_whole(PAIR, [LEFT, RIGHT], value), False, value)
        for value in any_values():
            expected = isinstance(value, Table) and value.heading() == ()
            self.assertIs(is_whole(((),), [Table((), [])], value), expected, value)

    def test_a_family_that_agrees_without_a_whole(self):
        family = [Table(heading, PARITY) for heading in SHELL]
        self.assertIsNone(disagreement(SHELL, family))
        rows = [(a, b, c) for a in (0, 1) for b in (0, 1) for c in (0, 1)]
        for one in rows:
            for other in rows:
                self.assertIs(is_whole(SHELL, family, Table(("a", "b", "c"), [(one, 1), (other, 1)])), False)

    def test_returned_lists_are_new(self):
        table = Table(columns_of(RING), [((0, 0, 0, 0), 1)])
        sums(RING, table).clear()
        self.assertEqual(len(sums(RING, table)), 4)
        self.assertEqual(columns_of(CHAIN), table.heading())


if __name__ == "__main__":
    unittest.main()
