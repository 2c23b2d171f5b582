"""[8.3] and [8.4]: wholes led to one another, and all wholes of a family."""

import unittest

from agreetwo.bounds import whole_with
from agreetwo.broken import core_rows
from agreetwo.cores import core
from agreetwo.ears import folding
from agreetwo.errors import AgreeError, Cored, Disagree, Folds, TooMany, Unlike
from agreetwo.exchanges import exchanged, judge_exchanges
from agreetwo.families import disagreement, is_whole, sums
from agreetwo.leading import all_wholes, leading, two_wholes
from agreetwo.tables import Table
from agreetwo.trees import seam
from agreetwo.webs import columns_of
from agreetwo.wholes import whole
from tests.support import (AB, BC, CHAIN, RING, SHELL, agreeing_family, cored_web, drawn, drawn_family, drawn_table,
                           folding_web, grown_web, ones, raised, ring_web, shell_web)
from tests.tableways import all_headings, all_tables_of

PATH, ABC = (AB, BC), ("a", "b", "c")
ONE, OTHER = ones(ABC, (0, 5, 0), (1, 5, 1)), ones(ABC, (0, 5, 1), (1, 5, 0))
PAIR = (ones(AB, (0, 5), (1, 5)), ones(BC, (5, 0), (5, 1)))
STAR = tuple([(letter,) for letter in "abcdefg"])
LONG = tuple([("abcdefgh"[k], "abcdefgh"[k + 1]) for k in range(7)])
FAN = tuple([("a", letter) for letter in "bcdefgh"])


def stirred(rng, web, table, steps, most_rows=16):
    """The table behind so many drawn exchanges, of at most so many rows on the way."""
    columns, pairs = columns_of(web), folding(web)
    heaps, sides = [set(heading) for heading in web], []
    for x, y in pairs:
        sides.append(tuple(sorted(heaps[x] - set(seam(web, x, y)))))
        heaps[y] |= heaps[x]
    for _ in range(steps if pairs and columns else 0):
        rows = table.rows()
        if not rows:
            break
        one, other = rng.choice(rows), rng.choice(rows)
        most = min(table.times(one), table.times(other))
        n = most if rng.random() < 0.8 else rng.randint(1, most)
        try:
            made = exchanged(web, table, (one, other, rng.choice(sides), n))
        except AgreeError:
            continue
        if len(made) <= most_rows:
            table = made
    return table


class Leading(unittest.TestCase):
    def lead(self, web, one, other):
        exchanges = leading(web, one, other)
        self.assertIsInstance(exchanges, tuple)
        self.assertLessEqual(len(exchanges), 4000)
        self.assertIsNone(judge_exchanges(web, one, exchanges, other), (web, one.counts(), other.counts()))
        return exchanges

    def test_by_hand(self):
        exchanges = self.lead(PATH, ONE, OTHER)
        self.assertEqual(len(exchanges), 1)
        self.lead(PATH, OTHER, ONE)

    def test_one_and_other_the_same_table(self):
        for web, table in [(PATH, ONE), (STAR, ones(tuple("abcdefg"), (1,) * 7)), ((AB,), ones(AB, (0, 1))),
                           (((),), Table((), [((), 3)])), (PATH, Table(ABC, []))]:
            self.assertEqual(leading(web, table, table), ())

    def test_cored_ahead_of_unlike(self):
        rng = drawn(811)
        for n in range(30):
            web = [RING, SHELL][n] if n < 2 else cored_web(rng)
            columns = columns_of(web)
            one, other = Table(columns, []), ones(columns, (0,) * len(columns))
            self.assertEqual(raised(Cored, leading, web, one, other).core, core(web))
            self.assertEqual(raised(Cored, leading, web, one, one).core, core(web))

    def test_unlike(self):
        self.assertEqual(raised(Unlike, leading, PATH, ONE, Table(ABC, [((0, 5, 1), 2)])).number, 0)
        self.assertEqual(raised(Unlike, leading, PATH, ONE, ones(ABC, (0, 5, 0), (1, 5, 7))).number, 1)
        self.assertEqual(raised(Unlike, leading, PATH, ONE, ONE * 2).number, 0)
        self.assertEqual(raised(Unlike, leading, PATH, ONE, Table(ABC, [])).number, 0)
        rng, many = drawn(812), 0
        for _ in range(150):
            web = folding_web(rng)
            columns = columns_of(web)
            one = drawn_table(rng, columns, rows=3, values=1, most=1)
            other = drawn_table(rng, columns, rows=3, values=1, most=1)
            unlike = [x for x, (a, b) in enumerate(zip(sums(web, one), sums(web, other))) if a != b]
            if unlike:
                self.assertEqual(raised(Unlike, leading, web, one, other).number, unlike[0])
                many += unlike[0] > 0
            else:
                self.lead(web, one, other)
        self.assertGreater(many, 3)

    def test_drawn(self):
        rng = drawn(813)
        longest = 0
        for n in range(120):
            web = rng.choice([STAR, LONG, FAN, CHAIN, PATH]) if n % 2 else grown_web(rng, 7, 8, rng.randint(0, 3))
            columns, top = columns_of(web), rng.choice([1, 3, 1000, 10 ** 30 - 1])
            values = rng.choice([1, 2, 3, 15])
            rows = [tuple([rng.randint(0, min(values, 1 if web is FAN and column == "a" else 99)) for column in columns])
                    for _ in range(16)]
            one = Table(columns, [(row, rng.randint(1, top)) for row in rows])
            other = stirred(rng, web, one, rng.choice([3, 30, 200]))
            longest = max(longest, len(self.lead(web, one, other)), len(self.lead(web, other, one)))
        self.assertGreater(longest, 20)

    def test_whole_and_whole_with(self):
        rng = drawn(814)
        for _ in range(60):
            web = grown_web(rng, most_headings=5, most_columns=6, most_shared=2)
            family = agreeing_family(rng, web, rows=5, values=1, most=10 ** 20)
            made = whole(web, family)
            for row in made.rows()[:2]:
                self.lead(web, made, whole_with(web, family, row, made.times(row)))

    def test_all_wholes_are_led_to_one_another(self):
        rng = drawn(815)
        many = 0
        for _ in range(60):
            web = grown_web(rng)
            family = agreeing_family(rng, web, rows=5, values=1, most=2)
            wholes = [Table(columns_of(web), counts) for counts in all_tables_of(web, family)][:8]
            for one in wholes:
                for other in wholes:
                    self.lead(web, one, other)
                    many += 1
        self.assertGreater(many, 200)

    def test_nothing_that_is_passed_changes(self):
        leading(PATH, ONE, OTHER)
        self.assertEqual((ONE.rows(), OTHER.rows()), ([(0, 5, 0), (1, 5, 1)], [(0, 5, 1), (1, 5, 0)]))


class AllWholes(unittest.TestCase):
    def test_by_hand(self):
        self.assertEqual(all_wholes(PATH, PAIR), [ONE, OTHER])
        self.assertEqual(all_wholes(PATH, list(PAIR), most=2), [ONE, OTHER])
        raised(TooMany, lambda: all_wholes(PATH, PAIR, most=1))

    def test_ascending_by_counts(self):
        web = (("a",), ("b",))
        family = [Table(("a",), [((0,), 2), ((1,), 1)]), Table(("b",), [((0,), 1), ((1,), 2)])]
        self.assertEqual([table.counts() for table in all_wholes(web, family)],
                         [[((0, 0), 1), ((0, 1), 1), ((1, 1), 1)], [((0, 1), 2), ((1, 0), 1)]])
        # As lists of pairs: (row, 1) comes ahead of (row, 2), and what comes later does not matter then.
        family = [Table(("a",), [((0,), 2), ((1,), 2)]), Table(("b",), [((0,), 2), ((1,), 2)])]
        self.assertEqual([table.counts()[0] for table in all_wholes(web, family)],
                         [((0, 0), 1), ((0, 0), 2), ((0, 1), 2)])

    def test_several_classes_along_one_seam(self):
        four = [(0, 0), (0, 1), (1, 0), (1, 1)]
        family = [ones(AB, *four), ones(BC, *four)]
        self.assertEqual(len(all_wholes(PATH, family)), 4)
        self.assertEqual([table.counts() for table in all_wholes(PATH, family, most=4)], all_tables_of(PATH, family))
        for most in (1, 2, 3):
            raised(TooMany, lambda: all_wholes(PATH, family, most=most))
        family = [ones(AB, *[(a, b) for a in (0, 1) for b in range(6)]),
                  ones(BC, *[(b, c) for b in range(6) for c in (0, 1)])]
        raised(TooMany, all_wholes, PATH, family)

    def test_edges(self):
        self.assertEqual(all_wholes((AB,), [PAIR[0]]), [PAIR[0]])
        self.assertEqual(all_wholes((AB,), [PAIR[0]], most=1), [PAIR[0]])
        self.assertEqual(all_wholes((AB, AB), [PAIR[0], PAIR[0]], most=1), [PAIR[0]])
        self.assertEqual(all_wholes(((),), [Table((), [((), 12)])]), [Table((), [((), 12)])])
        self.assertEqual(all_wholes(PATH, [Table(AB, []), Table(BC, [])], most=1), [Table(ABC, [])])

    def test_the_errors_of_whole(self):
        for web in (RING, SHELL):
            family = [ones(heading, (0, k)) for k, heading in enumerate(web)]
            self.assertIsNotNone(disagreement(web, family))
            self.assertEqual(raised(Cored, all_wholes, web, family).core, core(web))
        error = raised(Disagree, all_wholes, PATH, [PAIR[0], PAIR[1] * 2])
        self.assertEqual((error.one, error.other, error.row), (0, 1, (5,)))
        rng, many = drawn(816), 0
        for _ in range(60):
            web = folding_web(rng)
            family = drawn_family(rng, web)
            told = disagreement(web, family)
            if told is not None:
                error = raised(Disagree, lambda: all_wholes(web, family, most=1))
                self.assertEqual((error.one, error.other, error.row), told)
                many += 1
        self.assertGreater(many, 20)

    def test_drawn(self):
        rng = drawn(817)
        told = {True: 0, False: 0}
        for n in range(250):
            web = grown_web(rng) if n % 4 else folding_web(rng, most_headings=4, most_columns=4)
            family = agreeing_family(rng, web, rows=rng.choice([2, 4, 6]), values=1 + n % 2, most=2)
            wholes = all_tables_of(web, family)
            if len(wholes) > 60:
                raised(TooMany, all_wholes, web, family)
            else:
                made = all_wholes(web, family)
                self.assertIsInstance(made, list)
                self.assertEqual([table.counts() for table in made], wholes)
                self.assertTrue(all([is_whole(web, family, table) for table in made]))
                self.assertEqual(all_wholes(web, family, most=len(wholes)), made)
                if len(wholes) > 1:
                    for most in (len(wholes) - 1, 1):
                        raised(TooMany, lambda: all_wholes(web, family, most=most))
            told[len(wholes) > 1] += 1
        self.assertGreater(min(told.values()), 40)

    def test_just_sixty_and_one_more(self):
        def family(n):
            # A square of two by two of totals n and n has n + 1 wholes.
            return [Table(("a",), [((0,), n), ((1,), n)]), Table(("b",), [((0,), n), ((1,), n)])]
        web = (("a",), ("b",))
        self.assertEqual(len(all_wholes(web, family(59))), 60)
        raised(TooMany, all_wholes, web, family(60))
        self.assertEqual(len(all_wholes(web, family(6), most=7)), 7)
        raised(TooMany, lambda: all_wholes(web, family(6), most=6))

    def test_it_stops_at_the_first_one_too_many_and_makes_no_join(self):
        twelve = [(k,) for k in range(12)]
        web = tuple([(letter,) for letter in "abcd"])
        raised(TooMany, all_wholes, web, [ones(heading, *twelve) for heading in web])
        # The join of these has more than 600 rows, but there is just one whole.
        web = (("a",), ("b",), ("a", "b"))
        rows = [(k, k) for k in range(30)]
        family = [ones(("a",), *[(k,) for k in range(30)]), ones(("b",), *[(k,) for k in range(30)]), ones(AB, *rows)]
        self.assertEqual(all_wholes(web, family, most=1), [ones(AB, *rows)])
        great = [Table((letter,), [((0,), 10 ** 30 - 1), ((1,), 10 ** 30 - 1)]) for letter in "ab"]
        raised(TooMany, all_wholes, (("a",), ("b",)), great)

    def test_all_come_of_one_by_exchanges_of_one(self):
        rng = drawn(818)
        for _ in range(25):
            web = grown_web(rng, most_headings=3)
            family = agreeing_family(rng, web, rows=4, values=1, most=2)
            columns, expected = columns_of(web), all_tables_of(web, family)
            reached = [expected[0]]
            for counts in reached:
                table = Table(columns, counts)
                for one in table:
                    for other in table:
                        for side in all_headings(columns):
                            try:
                                made = exchanged(web, table, (one, other, side, 1)).counts()
                            except AgreeError:
                                continue
                            if made not in reached:
                                reached.append(made)
            self.assertEqual(sorted(reached), expected)

    def test_returned_lists_are_new_and_nothing_changes(self):
        family = list(PAIR)
        all_wholes(PATH, family).clear()
        self.assertEqual(len(all_wholes(PATH, family)), 2)
        self.assertEqual(family, list(PAIR))


class TwoWholes(unittest.TestCase):
    def test_by_hand(self):
        even, odd = two_wholes(SHELL)
        self.assertEqual(even.counts(), [(row, 1) for row in [(0, 0, 0), (0, 1, 1), (1, 0, 1), (1, 1, 0)]])
        self.assertEqual(odd.counts(), [(row, 1) for row in [(0, 0, 1), (0, 1, 0), (1, 0, 0), (1, 1, 1)]])

    def test_folds(self):
        self.assertEqual(raised(Folds, two_wholes, CHAIN).pairs, ((0, 1), (1, 2)))
        rng = drawn(819)
        for _ in range(20):
            web = folding_web(rng)
            self.assertEqual(raised(Folds, two_wholes, web).pairs, folding(web))

    def test_same_sums_no_other_whole_and_no_exchange(self):
        rng = drawn(820)
        webs = [RING, SHELL, shell_web("abcd"), ring_web("abcde"), ring_web("acbd"), shell_web("abcdefg")]
        for _ in range(25):
            webs.append(cored_web(rng, "abcde"))
        for web in webs:
            pair = two_wholes(web)
            columns = columns_of(web)
            self.assertIsInstance(pair, tuple)
            self.assertEqual([table.counts() for table in pair],
                             [[(row, 1) for row in core_rows(web, word)] for word in ("even", "odd")])
            self.assertEqual(sums(web, pair[0]), sums(web, pair[1]))
            self.assertNotEqual(pair[0], pair[1])
            if len(core_rows(web, "all")) <= 16 and len(columns) < 6:
                self.assertEqual(all_tables_of(web, sums(web, pair[0])), sorted([table.counts() for table in pair]))
                for table in pair:
                    for one in table:
                        for other in table:
                            for side in all_headings(columns):
                                told = judge_exchanges(web, table, ((one, other, side, 1),), table)
                                self.assertEqual(told, ("exchange", 0))


if __name__ == "__main__":
    unittest.main()
