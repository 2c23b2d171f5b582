"""[4.4]: questions about the join of a family that never make it."""

import math
import unittest

from agreetwo.cores import core
from agreetwo.ears import folding, root
from agreetwo.errors import Cored, NoRow, TooMany
from agreetwo.joints import join
from agreetwo.questions import count_join, gathered, nth, place_of, scale_led
from agreetwo.steps import done, full_plan
from agreetwo.tables import Table
from agreetwo.webs import columns_of
from tests.support import (AB, BC, CHAIN, RING, SHELL, agreeing_family, any_values, cored_web, drawn, drawn_family,
                           folding_web, ones, raised)
from tests.tableways import join_rows, part_of

PATH = (AB, BC)
TWO = (Table(AB, [((0, 0), 2), ((1, 0), 3)]), Table(BC, [((0, 7), 4), ((0, 8), 1), ((9, 9), 1)]))
SCALES = ("sum", "least", "greatest")
APART = tuple([(letter,) for letter in "abcdefg"])


def drawn_case(rng, n):
    """A web that folds, and a family of it with some rows in its join as a rule."""
    web = folding_web(rng, least=rng.randint(1, 3))
    values = rng.randint(1, 2)
    family = agreeing_family(rng, web, 9, values) if n % 2 else drawn_family(rng, web, 9, values, most=4)
    return web, family


def counts_of_parts(web, family, row):
    columns = columns_of(web)
    return [table.times(part_of(columns, row, heading)) for heading, table in zip(web, family)]


class CountJoin(unittest.TestCase):
    def test_by_hand(self):
        self.assertEqual(count_join(PATH, TWO), 4)
        self.assertEqual(count_join(PATH, list(TWO)), 4)
        self.assertEqual(count_join((AB,), TWO[:1]), 2)
        self.assertEqual(count_join((AB, AB), [TWO[0], TWO[0] * 2]), 2)
        self.assertEqual(count_join(((),), [Table((), [((), 5)])]), 1)
        self.assertEqual(count_join(((), AB), [Table((), []), TWO[0]]), 0)
        self.assertEqual(count_join((("a",), ("b",)), [ones(("a",), (1,), (2,)), ones(("b",), (1,), (2,), (3,))]), 6)
        self.assertEqual(count_join(PATH, [ones(AB, (0, 0)), ones(BC, (1, 0))]), 0)

    def test_drawn(self):
        rng = drawn(351)
        for n in range(120):
            web, family = drawn_case(rng, n)
            self.assertEqual(count_join(web, family), len(join_rows(web, family)))


class ScaleLed(unittest.TestCase):
    def test_by_hand(self):
        self.assertEqual([scale_led(PATH, TWO, scale) for scale in SCALES], [25, 3, 7])
        self.assertEqual([scale_led((AB,), TWO[:1], scale) for scale in SCALES], [5, 2, 3])
        self.assertEqual([scale_led(PATH, [ones(AB, (0, 0)), ones(BC, (1, 0))], scale) for scale in SCALES],
                         [0, None, None])
        self.assertEqual([scale_led(PATH, [Table(AB, []), TWO[1]], scale) for scale in SCALES], [0, None, None])
        self.assertEqual([scale_led(((), ()), [Table((), [((), 5)]), Table((), [((), 7)])], scale)
                          for scale in SCALES], [35, 12, 12])

    def test_drawn(self):
        rng = drawn(352)
        some = 0
        for n in range(120):
            web, family = drawn_case(rng, n)
            told = [counts_of_parts(web, family, row) for row in join_rows(web, family)]
            self.assertEqual(scale_led(web, family, "sum"), sum([math.prod(counts) for counts in told]))
            added = [sum(counts) for counts in told]
            self.assertEqual(scale_led(web, family, "least"), min(added, default=None))
            self.assertEqual(scale_led(web, family, "greatest"), max(added, default=None))
            some += bool(told)
        self.assertTrue(20 < some < 115)


class Numbers(unittest.TestCase):
    def test_by_hand(self):
        self.assertEqual([nth(PATH, TWO, n) for n in range(4)], [(0, 0, 7), (0, 0, 8), (1, 0, 7), (1, 0, 8)])
        self.assertEqual(place_of(PATH, TWO, (1, 0, 7)), 2)
        self.assertEqual(nth(((),), [Table((), [((), 5)])], 0), ())
        self.assertEqual(place_of(((),), [Table((), [((), 5)])], ()), 0)

    def test_numbers_that_no_row_has(self):
        for n in (-1, 4, 5, -4, 10 ** 29, -10 ** 29):
            self.assertEqual(raised(NoRow, nth, PATH, TWO, n).row, n)
        empty = [ones(AB, (0, 0)), ones(BC, (1, 0))]
        for n in (-1, 0, 1):
            self.assertEqual(raised(NoRow, nth, PATH, empty, n).row, n)

    def test_there_and_back_over_all_rows(self):
        rng = drawn(353)
        many = 0
        for n in range(160):
            web, family = drawn_case(rng, n)
            rows = join_rows(web, family)
            self.assertEqual([nth(web, family, k) for k in range(len(rows))], rows)
            self.assertEqual([place_of(web, family, row) for row in rows], list(range(len(rows))))
            for k in (-1, len(rows)):
                self.assertEqual(raised(NoRow, nth, web, family, k).row, k)
            many += len(rows)
        self.assertGreater(many, 300)

    def test_rows_ascend_over_all_columns_whatever_the_headings(self):
        web = (("b", "d"), ("a", "d"), ("c", "d"))
        family = [ones(heading, (0, 0), (0, 1), (1, 0), (1, 1)) for heading in web]
        rows = [nth(web, family, n) for n in range(16)]
        self.assertEqual(rows, sorted(rows))
        self.assertEqual(rows[1], (0, 0, 0, 1))

    def test_rows_that_are_none(self):
        for row in [(0, 0, 9), (1, 0, 9), (0, 0), (0, 0, 7, 0), [0, 0, 7], (0, False, 7), (False, 0, 7), (-1, 0, 7),
                    (0, 0, 100), ("0", 0, 7), {0: 0}, {"a": [1]}]:
            error = raised(NoRow, place_of, PATH, TWO, row)
            self.assertEqual(error.row, row)
            self.assertIs(error.row.__class__, row.__class__)
        for value in any_values():
            self.assertEqual(raised(NoRow, place_of, PATH, TWO, value).row, value)
            if value != ():
                self.assertEqual(raised(NoRow, place_of, ((),), [Table((), [((), 1)])], value).row, value)
        self.assertEqual(raised(NoRow, place_of, ((),), [Table((), [])], ()).row, ())

    def test_rows_beside_the_join(self):
        rng = drawn(354)
        for n in range(40):
            web, family = drawn_case(rng, n)
            rows, columns = join_rows(web, family), columns_of(web)
            for _ in range(20):
                row = tuple([rng.randint(0, 2) for _ in columns])
                if row not in rows:
                    self.assertEqual(raised(NoRow, place_of, web, family, row).row, row)

    def test_true_stays_true(self):
        self.assertIs(raised(NoRow, place_of, PATH, TWO, (True, 0, 7)).row[0], True)

    def test_a_list_is_borne_as_a_copy(self):
        value = [[1], 2]
        error = raised(NoRow, place_of, PATH, TWO, value)
        value[0].append(5)
        self.assertEqual(error.row, [[1], 2])


class Gathered(unittest.TestCase):
    def test_by_hand(self):
        self.assertEqual(gathered(PATH, TWO), [2, 4])
        self.assertEqual(gathered((AB,), TWO[:1]), [2])
        # Row (5, 5) of the first table is in no row of the join, and leaves by the full plan.
        self.assertEqual(gathered(PATH, [TWO[0] + ones(AB, (5, 5)), TWO[1]]), [2, 4])
        self.assertEqual(gathered(PATH, [ones(AB, (0, 0)), ones(BC, (1, 0))]), [0, 0])

    def test_drawn(self):
        rng = drawn(355)
        for n in range(100):
            web, family = drawn_case(rng, n)
            pairs = folding(web)
            clean = done(web, family, full_plan(web))
            told, heaps = [], [[x] for x in range(len(web))]
            for x, y in pairs:
                told.append(len(join_rows([web[z] for z in heaps[x]], [clean[z] for z in heaps[x]])))
                heaps[y].extend(heaps[x])
            told.append(len(join_rows(web, clean)))
            self.assertEqual(sorted(heaps[root(web, pairs)]), list(range(len(web))))
            numbers = gathered(web, family)
            self.assertEqual(numbers, told)
            self.assertEqual(numbers[-1], count_join(web, family))
            order = [x for x, _ in pairs] + [root(web, pairs)]
            for k, (_, y) in enumerate(pairs):
                self.assertLessEqual(numbers[k], numbers[order.index(y)])

    def test_returned_lists_are_new(self):
        gathered(PATH, TWO).clear()
        self.assertEqual(gathered(PATH, TWO), [2, 4])


class GreatJoins(unittest.TestCase):
    def test_seven_tables_of_sixteen_rows(self):
        family = [Table(heading, [((k,), k + 1) for k in range(16)]) for heading in APART]
        raised(TooMany, join, family)
        self.assertEqual(count_join(APART, family), 16 ** 7)
        self.assertEqual([scale_led(APART, family, scale) for scale in SCALES], [136 ** 7, 7, 112])
        self.assertEqual(nth(APART, family, 16 ** 7 - 1), (15,) * 7)
        self.assertEqual(nth(APART, family, 0x1234567), (1, 2, 3, 4, 5, 6, 7))
        self.assertEqual(place_of(APART, family, (1, 2, 3, 4, 5, 6, 7)), 0x1234567)
        self.assertEqual(gathered(APART, family)[-1], 16 ** 7)
        self.assertEqual(raised(NoRow, nth, APART, family, 16 ** 7).row, 16 ** 7)

    def test_a_chain_of_seven_headings_over_eight_columns(self):
        web = tuple([("abcdefgh"[k], "abcdefgh"[k + 1]) for k in range(7)])
        family = [Table(heading, [((j, k), 10 ** 30 - 1) for j in range(4) for k in range(4)]) for heading in web]
        self.assertEqual(count_join(web, family), 4 ** 8)
        self.assertEqual(scale_led(web, family, "sum"), 4 ** 8 * (10 ** 30 - 1) ** 7)
        for n in (0, 1, 4 ** 8 - 1, 12345):
            self.assertEqual(place_of(web, family, nth(web, family, n)), n)


class Cores(unittest.TestCase):
    def calls(self):
        return [count_join, gathered] + [lambda web, family, scale=scale: scale_led(web, family, scale)
                                         for scale in SCALES] + [
            lambda web, family: nth(web, family, 0), lambda web, family: nth(web, family, -1),
            lambda web, family: place_of(web, family, (0, 0)), lambda web, family: place_of(web, family, [None])]

    def test_cored_ahead_of_all_else(self):
        for web in (RING, SHELL):
            for call in self.calls():
                self.assertEqual(raised(Cored, call, web, [Table(heading, []) for heading in web]).core, core(web))

    def test_drawn(self):
        rng = drawn(356)
        for _ in range(20):
            web = cored_web(rng)
            for call in self.calls():
                self.assertEqual(raised(Cored, call, web, drawn_family(rng, web)).core, core(web))


class Arguments(unittest.TestCase):
    def test_nothing_changes(self):
        family = list(TWO)
        for call in (count_join, gathered):
            call(PATH, family)
        scale_led(PATH, family, "sum")
        nth(PATH, family, 2)
        place_of(PATH, family, (0, 0, 7))
        self.assertEqual(family, list(TWO))
        self.assertEqual(TWO[0].counts(), [((0, 0), 2), ((1, 0), 3)])
        self.assertEqual(CHAIN, (("a", "b"), ("b", "c"), ("c", "d")))


if __name__ == "__main__":
    unittest.main()
