"""[6.3], [6.5] and [6.6]: webs that splits make, and tables that join back over a web."""

import unittest

from agreetwo.broken import core_rows
from agreetwo.cores import core
from agreetwo.ears import folding
from agreetwo.errors import Folds, TooMany
from agreetwo.follows import follows
from agreetwo.joints import join
from agreetwo.parted import added, joins_back, parted_web, unsplit
from agreetwo.splits import has_split, must_split, splits_of
from agreetwo.tables import Table, summed
from agreetwo.webs import columns_of, is_web
from tests.support import (CHAIN, RING, SHELL, cored_web, drawn, drawn_table, drawn_web, folding_web, ones, raised,
                           ring_web, shell_web)
from tests.tableways import all_splits, join_rows

ABC, ABCD, EIGHT = ("a", "b", "c"), ("a", "b", "c", "d"), tuple("abcdefgh")
TOLD = [(("a",), ("b",)), (("c",), ("d",))]
THREE = Table(ABC, [((0, 0, 0), 1), ((0, 1, 1), 2), ((1, 5, 7), 1)])
PATH = (("a", "b"), ("b", "c"))


def slow_parted(heading, told):
    """[6.3], heading by heading; None where there are too many."""
    web = [frozenset(heading)]
    for given, side in told:
        rest, new = set(heading) - set(given) - set(side), []
        for one in web:
            if set(given) <= one and one & set(side) and one & rest:
                new.extend([frozenset(given) | (one & set(side)), frozenset(given) | (one & rest)])
            else:
                new.append(one)
        web = new
        if len(web) > 7:
            return None
    return tuple([tuple(sorted(one)) for one in web])


class Parted(unittest.TestCase):
    def test_by_hand(self):
        self.assertEqual(parted_web(ABCD, TOLD), (("a", "b"), ("c", "d"), ("a", "c")))
        self.assertEqual(parted_web(ABCD, tuple(TOLD)), (("a", "b"), ("c", "d"), ("a", "c")))
        self.assertEqual(parted_web(ABCD, TOLD[::-1]), (("c", "d"), ("a", "b"), ("a", "c")))

    def test_nothing_told_and_splits_that_part_nothing(self):
        self.assertEqual(parted_web(ABC, []), (ABC,))
        self.assertEqual(parted_web((), ()), ((),))
        self.assertEqual(parted_web(ABCD, [TOLD[0], TOLD[0]]), (("a", "b"), ("a", "c", "d")))
        # Behind the first one b stands in no heading beside c and d: so what has b and c as given parts nothing.
        self.assertEqual(parted_web(ABCD, [TOLD[0], (("b", "c"), ("a",))]), (("a", "b"), ("a", "c", "d")))
        # Here a heading has all that is given, but no column of the rest.
        self.assertEqual(parted_web(ABC, [((), ("a", "b")), ((), ("a", "b"))]), (("a", "b"), ("c",)))

    def test_the_first_one_has_the_side(self):
        self.assertEqual(parted_web(ABC, [(("b",), ("c",))]), (("b", "c"), ("a", "b")))
        self.assertEqual(parted_web(ABC, [((), ("b",))]), (("b",), ("a", "c")))

    def test_like_headings_stay(self):
        told = [(("a",), ("b",)), (("a",), ("c",)), ((), ("a",))]
        self.assertEqual(parted_web(ABCD, told), (("a",), ("b",), ("a",), ("c",), ("a",), ("d",)))

    def test_more_than_seven(self):
        alone = [((), (letter,)) for letter in EIGHT]
        self.assertEqual(parted_web(EIGHT, alone[:6]),
                         (("a",), ("b",), ("c",), ("d",), ("e",), ("f",), ("g", "h")))
        raised(TooMany, parted_web, EIGHT, alone[:7])
        raised(TooMany, parted_web, EIGHT, alone)
        # Like headings count, too.
        told = [(("a",), ("b",)), (("a",), ("c",)), (("a",), ("d",)), ((), ("a",))]
        raised(TooMany, parted_web, ("a", "b", "c", "d", "e"), told)

    def test_drawn(self):
        rng = drawn(601)
        many = {True: 0, False: 0}
        for _ in range(400):
            heading = rng.choice([("a", "b"), ABC, ABCD, tuple("abcde"), EIGHT, EIGHT])
            splits = all_splits(heading)
            if rng.random() < 0.5:
                splits = [split for split in splits if len(split[0]) == 0]
            told = [rng.choice(splits) for _ in range(rng.randint(0, 8))]
            expected = slow_parted(heading, told)
            if expected is None:
                raised(TooMany, parted_web, heading, told)
            else:
                web = parted_web(heading, told)
                self.assertEqual(web, expected)
                self.assertTrue(is_web(web))
                self.assertEqual(columns_of(web), heading)
            many[expected is None] += 1
        self.assertGreater(min(many.values()), 15)

    def test_each_table_that_has_them_all_joins_back_whether_the_web_folds_or_not(self):
        rng = drawn(602)
        many = {True: 0, False: 0}
        for _ in range(400):
            heading = rng.choice([ABC, ABCD])
            told = [rng.choice(all_splits(heading)) for _ in range(rng.randint(1, 3))]
            table = drawn_table(rng, heading, rows=9, values=1)
            if slow_parted(heading, told) and all([has_split(table, split) for split in told]):
                web = parted_web(heading, told)
                self.assertTrue(joins_back(web, table))
                many[folding(web) is None] += 1
        self.assertGreater(many[False], 30)
        self.assertGreater(many[True], 2)

    def test_a_web_with_a_core(self):
        told = [(("a", "b"), ("c",)), (("c",), ("a",))]
        web = parted_web(ABCD, told)
        self.assertEqual(web, (("a", "c"), ("b", "c"), ("a", "b", "d")))
        self.assertIsNotNone(core(web))
        rng, many = drawn(607), 0
        for _ in range(300):
            table = drawn_table(rng, ABCD, rows=6, values=1)
            if all([has_split(table, split) for split in told]):
                self.assertTrue(joins_back(web, table))
                many += len(table) > 2
        self.assertGreater(many, 10)
        self.assertIsNone(follows(ABCD, told, (("a", "b"), ("d",))))

    def test_nothing_that_is_passed_changes(self):
        told = list(TOLD)
        parted_web(ABCD, told)
        self.assertEqual(told, TOLD)


class JoinsBack(unittest.TestCase):
    def test_by_hand(self):
        self.assertIs(joins_back(PATH, THREE), True)
        self.assertIsNone(added(PATH, THREE))
        web = (("a", "b"), ("a", "c"))
        self.assertIs(joins_back(web, THREE), False)
        self.assertEqual(added(web, THREE), (0, 0, 1))

    def test_the_first_one_ascending(self):
        web = (("a",), ("b",))
        self.assertEqual(added(web, ones(("a", "b"), (0, 0), (1, 1), (2, 2))), (0, 1))
        self.assertEqual(added(web, ones(("a", "b"), (0, 1), (0, 2), (1, 1), (1, 2), (2, 1))), (2, 2))

    def test_counts_do_not_matter(self):
        web = (("a",), ("b",))
        table = Table(("a", "b"), [((0, 0), 9), ((0, 1), 1), ((1, 0), 10 ** 29), ((1, 1), 2)])
        self.assertTrue(joins_back(web, table))

    def test_edges(self):
        self.assertTrue(joins_back((ABC,), THREE))
        self.assertTrue(joins_back((ABC, ("a",), ()), THREE))
        self.assertTrue(joins_back(PATH, Table(ABC, [])))
        self.assertTrue(joins_back(((),), Table((), [])))
        self.assertTrue(joins_back(((), ()), Table((), [((), 4)])))
        self.assertTrue(joins_back((("a",), ("b",)), ones(("a", "b"), (7, 8))))

    def test_drawn(self):
        rng = drawn(603)
        told = {True: 0, False: 0}
        for n in range(200):
            web = cored_web(rng, "abcd") if n % 2 else drawn_web(rng, 4, 4, 3)
            table = drawn_table(rng, columns_of(web), rows=8, values=1)
            rows = join_rows(web, [summed(table, heading) for heading in web])
            new = [row for row in rows if row not in table]
            self.assertEqual(added(web, table), new[0] if new else None)
            self.assertIs(joins_back(web, table), not new)
            told[not new] += 1
        self.assertGreater(min(told.values()), 20)

    def test_webs_that_fold_and_all_their_splits(self):
        rng = drawn(604)
        told = {True: 0, False: 0}
        for _ in range(200):
            web = folding_web(rng, most_headings=4, most_columns=5, least=2)
            table = drawn_table(rng, columns_of(web), rows=8, values=1)
            back = joins_back(web, table)
            self.assertIs(all([has_split(table, split) for split in splits_of(web)]), back)
            told[back] += 1
        self.assertGreater(min(told.values()), 20)

    def test_too_many_in_the_order_of_the_headings(self):
        table = ones(ABC, *[(k, k, 0) for k in range(25)])
        for call in (joins_back, added):
            raised(TooMany, call, (("a",), ("b",), ("c",)), table)
        # The last join would be small, but the one ahead of it is not; in another order none is.
        for call in (joins_back, added):
            raised(TooMany, call, (("a",), ("b",), ("a", "b"), ("c",)), table)
        self.assertTrue(joins_back((("a", "b"), ("a",), ("b",), ("c",)), table))
        self.assertIsNone(added((("a", "b"), ("a",), ("b",), ("c",)), table))
        raised(TooMany, added, (("a",), ("b",)), ones(("a", "b"), *[(k, k) for k in range(25)]))
        self.assertEqual(added((("a",), ("b",)), ones(("a", "b"), *[(k, k) for k in range(24)])), (0, 1))

    def test_128_rows(self):
        table = ones(EIGHT, *[(k % 2, k // 2 % 2, k // 4 % 2, k // 8 % 2, k // 16 % 2, k // 32 % 2, k // 64, 5)
                              for k in range(128)])
        self.assertTrue(joins_back(tuple([(letter,) for letter in "abcdefg"])[:6] + (("g", "h"),), table))
        self.assertEqual(len(join([summed(table, (letter,)) for letter in EIGHT])), 128)


class Unsplit(unittest.TestCase):
    def test_by_hand(self):
        self.assertEqual(unsplit(SHELL).counts(), [(row, 1) for row in [(0, 0, 0), (0, 1, 1), (1, 0, 1), (1, 1, 0)]])
        self.assertEqual(unsplit(RING).rows(), [(0, 0, 0, 0), (0, 1, 1, 1), (1, 0, 1, 1), (1, 1, 0, 0)])
        self.assertEqual(added(SHELL, unsplit(SHELL)), (0, 0, 1))

    def test_columns_beside_the_core_are_noughts(self):
        web = SHELL + (("c", "d"),)
        self.assertEqual(unsplit(web).heading(), ABCD)
        self.assertEqual([row[3] for row in unsplit(web)], [0, 0, 0, 0])

    def test_folds(self):
        self.assertEqual(raised(Folds, unsplit, CHAIN).pairs, ((0, 1), (1, 2)))
        self.assertEqual(raised(Folds, unsplit, (("a",),)).pairs, ())
        rng = drawn(605)
        for _ in range(20):
            web = folding_web(rng)
            self.assertEqual(raised(Folds, unsplit, web).pairs, folding(web))

    def test_it_has_all_that_the_web_must_have_and_does_not_join_back(self):
        rng = drawn(606)
        webs = [RING, SHELL, ring_web("abcdefg"), shell_web("abcde"), shell_web("abcdefg"), ring_web("acbd")]
        for n in range(40):
            webs.append(cored_web(rng, "abcdef"))
        musts = 0
        for web in webs:
            table = unsplit(web)
            self.assertEqual(table.counts(), [(row, 1) for row in core_rows(web, "even")])
            self.assertEqual(table.heading(), columns_of(web))
            self.assertIs(joins_back(web, table), False)
            rows = join([summed(table, heading) for heading in web]).rows()
            self.assertEqual(rows, core_rows(web, "all"), core(web))
            for split in all_splits(columns_of(web)):
                if must_split(web, split):
                    self.assertTrue(has_split(table, split))
                    musts += 1
        self.assertGreater(musts, 100)


if __name__ == "__main__":
    unittest.main()
