"""[1.6] and [1.7]: joint and join."""

import itertools
import unittest

from agreetwo.errors import Disagree, TooMany
from agreetwo.headings import part, shared, together
from agreetwo.joints import join, joint
from agreetwo.tables import Table, agree, summed
from tests.support import AB, BC, LEFT, RIGHT, drawn, drawn_heading, drawn_table, raised

BIG = 10 ** 30 - 1


def united(one, row, other, mate):
    values = {**dict(zip(one, row)), **dict(zip(other, mate))}
    return tuple([values[column] for column in together(one, other)])


def joint_by_hand(one, other):
    """Each row as often as it counts, the lists side by side: what [1.6] makes of them two by two."""
    left, right = one.heading(), other.heading()
    pairs = []
    for seen in summed(one, right).rows():
        rows = [row for row, count in one.counts() for _ in range(count) if part(left, row, right) == seen]
        mates = [mate for mate, count in other.counts() for _ in range(count) if part(right, mate, left) == seen]
        assert len(rows) == len(mates)
        pairs.extend([(united(left, row, right, mate), 1) for row, mate in zip(rows, mates)])
    return Table(together(left, right), pairs)


def join_by_hand(tables):
    """All rows with values that stand somewhere, each looked at in each table."""
    columns = tuple(sorted({column for table in tables for column in table.heading()}))
    values = sorted({value for table in tables for row in table for value in row})
    rows = [row for row in itertools.product(values, repeat=len(columns))
            if all(part(columns, row, table.heading()) in table for table in tables)]
    return Table(columns, [(row, 1) for row in rows])


def agreeing_pair(rng):
    """Two tables that agree, as both are sums of one."""
    whole = drawn_table(rng, drawn_heading(rng, "abcde"), rows=9, values=2, most=3)
    return summed(whole, drawn_heading(rng, "abcd")), summed(whole, drawn_heading(rng, "bcde"))


class Joint(unittest.TestCase):
    def test_by_hand(self):
        one = Table(AB, [((0, 1), 2), ((3, 1), 5), ((4, 2), 1)])
        other = Table(BC, [((1, 0), 4), ((1, 7), 3), ((2, 0), 1)])
        self.assertEqual(joint(one, other).counts(),
                         [((0, 1, 0), 2), ((3, 1, 0), 2), ((3, 1, 7), 3), ((4, 2, 0), 1)])
        self.assertEqual(joint(one, other).heading(), ("a", "b", "c"))
        self.assertEqual(joint(other, one), joint(one, other))

    def test_drawn(self):
        rng = drawn(31)
        for _ in range(300):
            one, other = agreeing_pair(rng)
            made = joint(one, other)
            self.assertEqual(made, joint_by_hand(one, other))
            self.assertEqual(made.heading(), together(one.heading(), other.heading()))
            self.assertEqual(summed(made, one.heading()), one)
            self.assertEqual(summed(made, other.heading()), other)
            if made:
                self.assertLessEqual(len(made), len(one) + len(other) - len(summed(one, other.heading())))

    def test_great_counts(self):
        one = Table(AB, [((0, 1), BIG), ((1, 1), BIG)])
        other = Table(BC, [((1, 0), BIG - 1), ((1, 1), BIG + 1)])
        self.assertEqual(joint(one, other).counts(),
                         [((0, 1, 0), BIG - 1), ((0, 1, 1), 1), ((1, 1, 1), BIG)])

    def test_nothing_shared_and_headings_within(self):
        one, other = Table(("a",), [((0,), 2), ((1,), 1)]), Table(("b",), [((5,), 1), ((6,), 2)])
        self.assertEqual(joint(one, other).counts(), [((0, 5), 1), ((0, 6), 1), ((1, 6), 1)])
        self.assertEqual(joint(LEFT, summed(LEFT, ("b",))), LEFT)
        self.assertEqual(joint(summed(LEFT, ()), LEFT), LEFT)
        self.assertEqual(joint(LEFT, LEFT), LEFT)
        self.assertEqual(joint(Table((), [((), 4)]), Table((), [((), 4)])).counts(), [((), 4)])

    def test_without_rows(self):
        self.assertEqual(joint(Table(AB, []), Table(BC, [])), Table(("a", "b", "c"), []))
        self.assertEqual(joint(Table((), []), Table(BC, [])), Table(BC, []))

    def test_disagree(self):
        for one, other in [(LEFT, RIGHT * 2), (RIGHT, LEFT * 3), (LEFT, Table(BC, [])), (Table(("c",), []), LEFT)]:
            error = raised(Disagree, joint, one, other)
            self.assertEqual([error.one, error.other, error.row], [None, None, agree(one, other)])
        error = raised(Disagree, joint, LEFT, RIGHT + Table(BC, [((2, 7), 1)]))
        self.assertEqual([error.one, error.other, error.row], [None, None, (2,)])

    def test_nothing_changes(self):
        joint(LEFT, RIGHT)
        self.assertEqual(LEFT.counts(), [((0, 1), 5), ((2, 2), 1)])
        self.assertEqual(RIGHT.counts(), [((1, 0), 4), ((1, 5), 1), ((2, 0), 1)])


def numbered(column, many):
    """A table of so many rows over one column."""
    return Table((column,), [((k,), 2) for k in range(many)])


class Join(unittest.TestCase):
    def test_of_none_and_of_one(self):
        self.assertEqual(join([]), Table((), [((), 1)]))
        self.assertEqual(join(()), Table((), [((), 1)]))
        self.assertEqual(join([LEFT]).counts(), [((0, 1), 1), ((2, 2), 1)])
        self.assertEqual(join([Table((), [((), 7)])]).counts(), [((), 1)])
        self.assertEqual(join([Table((), [])]), Table((), []))

    def test_of_tables_without_rows(self):
        self.assertEqual(join([LEFT, Table(BC, []), RIGHT]), Table(("a", "b", "c"), []))
        self.assertEqual(join([Table((), []), LEFT]), Table(AB, []))

    def test_drawn(self):
        rng = drawn(32)
        for _ in range(150):
            tables = [drawn_table(rng, drawn_heading(rng, "abcd", 3), rows=5) for _ in range(rng.randint(0, 4))]
            made = join(tables)
            self.assertEqual(made, join_by_hand(tables))
            self.assertEqual(join(tuple(tables)), made)
            for table in tables:
                for row in made:
                    self.assertIn(part(made.heading(), row, table.heading()), table)

    def test_rows_stand_once(self):
        self.assertEqual(join([LEFT, LEFT, RIGHT * 9]).counts(), [((0, 1, 0), 1), ((0, 1, 5), 1), ((2, 2, 0), 1)])

    def test_just_600_rows(self):
        self.assertEqual(len(join([numbered("a", 20), numbered("b", 30)])), 600)
        self.assertEqual(len(join([numbered("a", 20), numbered("b", 30), numbered("a", 20)])), 600)
        self.assertEqual(len(join([numbered("a", 20), numbered("b", 30), numbered("c", 1)])), 600)

    def test_more_than_600_rows(self):
        raised(TooMany, join, [numbered("a", 20), numbered("b", 31)])
        wide = Table(AB, [((k // 100, k % 100), 1) for k in range(601)])
        raised(TooMany, join, [wide])
        self.assertEqual(len(join([wide - Table(AB, [((0, 0), 1)])])), 600)
        raised(TooMany, join, [wide, Table(AB, [((0, 0), 1)])])
        self.assertEqual(len(join([Table(AB, [((0, 0), 1)]), wide])), 1)

    def test_too_many_among_the_first_alone(self):
        few = Table(AB, [((0, 0), 1)])
        none = Table((), [])
        raised(TooMany, join, [numbered("a", 30), numbered("b", 30), few])
        raised(TooMany, join, [numbered("a", 30), numbered("b", 30), none])
        self.assertEqual(join([few, numbered("a", 30), numbered("b", 30)]).counts(), [((0, 0), 1)])
        self.assertEqual(len(join([none, numbered("a", 30), numbered("b", 30)])), 0)

    def test_nothing_changes(self):
        tables = [LEFT, RIGHT]
        join(tables)
        self.assertEqual(tables, [LEFT, RIGHT])
        self.assertEqual(len(tables), 2)

    def test_shared_columns_as_a_heading(self):
        self.assertEqual(join([LEFT, RIGHT]).heading(), ("a", "b", "c"))
        self.assertEqual(shared(LEFT.heading(), RIGHT.heading()), ("b",))


if __name__ == "__main__":
    unittest.main()
