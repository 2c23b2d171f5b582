"""[9.1]: webs that change, and webs that are glued."""

import unittest

from agreetwo.errors import BadHeading, BadName, BadNumber, TooMany, UnknownColumn
from agreetwo.webchanges import glued, renamed, with_heading, without_column, without_heading
from agreetwo.webs import columns_of, is_web
from tests.support import (CHAIN, LETTERS, RING, SHELL, any_values, drawn, drawn_heading, drawn_web, raised)
from tests.webways import all_cores

PAIR = (("a", "b"), ("b", "c"))
EIGHT = tuple("abcdefgh")
WORDS = ["a", "b", "c", "d", "x", "y", "word", "eightlet"]


class WithHeading(unittest.TestCase):
    def test_by_hand(self):
        self.assertEqual(with_heading(PAIR, ("a",)), PAIR + (("a",),))
        self.assertEqual(with_heading(PAIR, ()), PAIR + ((),))
        self.assertEqual(with_heading(PAIR, ("a", "b")), PAIR + (("a", "b"),))
        self.assertEqual(with_heading(((),), EIGHT), ((), EIGHT))

    def test_bad_heading(self):
        wrong = [("b", "a"), ("a", "a"), ["a"], ("A",), ("",), ("ninechars",), tuple("abcdefghi"), (1,), (True,), "a",
                 (("a",),), ("a", None)]
        for value in wrong + [value for value in any_values() if value not in ((), ("a",))]:
            error = raised(BadHeading, with_heading, PAIR, value)
            self.assertEqual(error.heading, value)
            self.assertIs(error.heading.__class__, value.__class__)

    def test_too_many(self):
        seven = (("a",),) * 7
        raised(TooMany, with_heading, seven, ("a",))
        raised(TooMany, with_heading, seven, ())
        self.assertEqual(len(with_heading(seven[:6], ("b",))), 7)
        raised(TooMany, with_heading, (EIGHT,), ("i",))
        raised(TooMany, with_heading, (tuple("abcde"),), tuple("efghi"))
        self.assertEqual(columns_of(with_heading((tuple("abcde"),), tuple("efgh"))), EIGHT)

    def test_bad_heading_comes_ahead_of_too_many(self):
        for value in [("b", "a"), ["z"], tuple("abcdefghi"), None, [[1]]]:
            self.assertEqual(raised(BadHeading, with_heading, (EIGHT,) * 7, value).heading, value)

    def test_what_is_borne_is_a_copy(self):
        value = ["a", ["b"]]
        error = raised(BadHeading, with_heading, PAIR, value)
        value[1].append("c")
        self.assertEqual(error.heading, ["a", ["b"]])


class WithoutHeading(unittest.TestCase):
    def test_by_hand(self):
        self.assertEqual(without_heading(RING, 3), CHAIN)
        self.assertEqual(without_heading(RING, 0), RING[1:])
        self.assertEqual(without_heading(PAIR, 1), (("a", "b"),))

    def test_bad_number(self):
        for x in [2, -1, True, False, "0", None, (0,), [0]] + [x for x in any_values() if x not in (0, 1)]:
            error = raised(BadNumber, without_heading, PAIR, x)
            self.assertEqual(error.number, x)
            self.assertIs(error.number.__class__, x.__class__)

    def test_one_heading_alone(self):
        for x in any_values():
            self.assertEqual(raised(BadNumber, without_heading, (("a",),), x).number, x)


class WithoutColumn(unittest.TestCase):
    def test_by_hand(self):
        self.assertEqual(without_column(SHELL, "b"), (("a",), ("a", "c"), ("c",)))

    def test_headings_stay_when_they_become_empty_or_alike(self):
        self.assertEqual(without_column((("a",), ("a", "b"), ("b",), ("a",)), "a"), ((), ("b",), ("b",), ()))
        self.assertEqual(without_column((("a",),), "a"), ((),))
        self.assertEqual(without_column((("a", "b"), ("a", "b", "c")), "c"), (("a", "b"), ("a", "b")))

    def test_unknown_column(self):
        wrong = ["d", "aa", "", ("a",), ["a"], 0, None, True] + [value for value in any_values() if value != "a"]
        for value in wrong:
            error = raised(UnknownColumn, without_column, SHELL, value)
            self.assertEqual(error.column, value)
            self.assertIs(error.column.__class__, value.__class__)
        self.assertEqual(raised(UnknownColumn, without_column, ((),), "a").column, "a")

    def test_the_cores_are_those_without_the_column(self):
        rng = drawn(901)
        for _ in range(40):
            web = drawn_web(rng, widest=3, most_columns=6)
            for column in columns_of(web):
                expected = [told for told in all_cores(web) if column not in told[1]]
                self.assertEqual(all_cores(without_column(web, column)), expected)


def slow_renamed(web, names):
    """[9.1], as a pair of the error's name and the bad name, or of None and the web."""
    columns = sorted({column for heading in web for column in heading})
    called = [(column, names[column] if column in names else column) for column in columns]
    for old, new in called:
        others = [name for column, name in called if column != old]
        is_word = isinstance(new, str) and 1 <= len(new) <= 8 and all("a" <= sign <= "z" for sign in new)
        if old in names and (not is_word or new in others):
            return "BadName", new
    return None, tuple([tuple(sorted([dict(called)[column] for column in heading])) for heading in web])


class Renamed(unittest.TestCase):
    def test_by_hand(self):
        self.assertEqual(renamed(PAIR, {"a": "c", "c": "a"}), (("b", "c"), ("a", "b")))
        self.assertEqual(renamed(PAIR, {"a": "z"}), (("b", "z"), ("b", "c")))
        self.assertEqual(renamed(PAIR, {}), PAIR)
        self.assertEqual(renamed(PAIR, {"a": "a", "b": "b"}), PAIR)
        self.assertEqual(renamed(PAIR, {"a": "b", "b": "c", "c": "a"}), (("b", "c"), ("a", "c")))
        self.assertEqual(renamed(((), ("a",)), {"a": "eightlet"}), ((), ("eightlet",)))

    def test_bad_name(self):
        self.assertEqual(raised(BadName, renamed, PAIR, {"a": "c"}).name, "c")
        self.assertEqual(raised(BadName, renamed, PAIR, {"b": "x", "a": "x"}).name, "x")
        self.assertEqual(raised(BadName, renamed, PAIR, {"c": 5, "a": "z", "b": [4]}).name, [4])
        self.assertEqual(raised(BadName, renamed, PAIR, {"c": "b", "b": "c", "a": "c"}).name, "c")
        for value in ["", "ninechars", "A", "a b", "a1", 0, None, True, ("z",), ["z"], {}] + any_values():
            if value not in ("a", "ab"):
                error = raised(BadName, renamed, PAIR, {"a": value})
                self.assertEqual(error.name, value)
                self.assertIs(error.name.__class__, value.__class__)

    def test_the_first_by_the_old_names(self):
        # b takes the name that c keeps; a and c are told none.
        self.assertEqual(raised(BadName, renamed, PAIR, {"b": "c"}).name, "c")
        # c is called as a before, which keeps its name: but a is told none, so it is c's new name.
        self.assertEqual(raised(BadName, renamed, PAIR, {"c": "a"}).name, "a")
        self.assertEqual(raised(BadName, renamed, PAIR, {"c": 1, "b": 2, "a": 3}).name, 3)
        # The name a, which is told of c, is that of a, too; but a is none of those that get a new one, and b is.
        self.assertEqual(raised(BadName, renamed, PAIR, {"b": 5, "c": "a"}).name, 5)

    def test_drawn(self):
        rng = drawn(902)
        told = {True: 0, False: 0}
        for _ in range(400):
            web = drawn_web(rng, 4, 5, 3)
            columns = columns_of(web)
            names = {}
            for column in rng.sample(columns, rng.randint(0, len(columns))):
                names[column] = rng.choice(WORDS + list(columns) * 2 + [column, 7 if rng.random() < 0.2 else column])
            if rng.random() < 0.3:
                names = dict(zip(columns, rng.sample(columns, len(columns))))
            name, expected = slow_renamed(web, names)
            if name is None:
                self.assertEqual(renamed(web, names), expected)
                self.assertTrue(is_web(expected))
            else:
                self.assertEqual(raised(BadName, renamed, web, names).name, expected)
            told[name is None] += 1
        self.assertGreater(min(told.values()), 50)

    def test_nothing_that_is_passed_changes(self):
        names = {"a": "c", "c": "a"}
        renamed(PAIR, names)
        self.assertEqual(names, {"a": "c", "c": "a"})


class Glued(unittest.TestCase):
    def test_by_hand(self):
        self.assertEqual(glued(PAIR, (("c", "d"), ("b", "c")), 1, 1), (("a", "b"), ("b", "c"), ("c", "d")))
        self.assertEqual(glued(PAIR, (("b", "c"),), 1, 0), PAIR)
        self.assertEqual(glued((("b", "c"),), PAIR, 0, 1), (("b", "c"), ("a", "b")))
        self.assertEqual(glued(((), ("a",)), (("d",), (), ("e",)), 0, 1), ((), ("a",), ("d",), ("e",)))

    def test_bad_number_of_x(self):
        other = (("c", "d"), ("b", "c"))
        for x in [2, -1, True, False, "1", None, (1,), [1]] + [x for x in any_values() if x not in (0, 1)]:
            for y in [1, 0, None, [1], 9]:
                error = raised(BadNumber, glued, PAIR, other, x, y)
                self.assertEqual(error.number, x)
                self.assertIs(error.number.__class__, x.__class__)

    def test_bad_number_of_y(self):
        other = (("c", "d"), ("b", "c"))
        for y in [2, 0, -1, True, False, "1", None, (1,), [1]] + [y for y in any_values() if y not in (0, 1)]:
            error = raised(BadNumber, glued, PAIR, other, 1, y)
            self.assertEqual(error.number, y)
            self.assertIs(error.number.__class__, y.__class__)
        self.assertEqual(raised(BadNumber, glued, PAIR, other, 0, 1).number, 1)
        # Both have a, which is no column of the heading.
        self.assertEqual(raised(BadNumber, glued, PAIR, (("a", "d"), ("b", "c")), 1, 1).number, 1)
        self.assertEqual(raised(BadNumber, glued, PAIR, PAIR, 1, 1).number, 1)

    def test_too_many(self):
        raised(TooMany, glued, (("a",),) * 5, (("a",),) * 4, 0, 0)
        self.assertEqual(len(glued((("a",),) * 5, (("a",),) * 3, 4, 2)), 7)
        raised(TooMany, glued, (tuple("abcde"), ()), (tuple("fghi"), ()), 1, 1)
        self.assertEqual(columns_of(glued((tuple("abcde"), ()), (tuple("fgh"), ()), 1, 1)), EIGHT)

    def test_bad_number_comes_ahead_of_too_many(self):
        self.assertEqual(raised(BadNumber, glued, (("a",),) * 5, (("a",),) * 4, 5, 9).number, 5)
        self.assertEqual(raised(BadNumber, glued, (("a",),) * 5, (("a",),) * 4, 4, 9).number, 9)
        self.assertEqual(raised(BadNumber, glued, (tuple("abcde"), ()), (tuple("efghi"), ()), 1, 1).number, 1)

    def test_the_cores_are_those_of_both(self):
        rng = drawn(903)
        many = 0
        for _ in range(300):
            one, other = drawn_web(rng, 4, 4, 2), drawn_web(rng, 4, 4, 2)
            moved = {column: LETTERS[LETTERS.index(column) + 3] for column in columns_of(other)}
            other = renamed(other, moved)
            for x, heading in enumerate(one):
                for y in range(len(other)):
                    both = set(columns_of(one)) & set(columns_of(other))
                    if other[y] == heading and both <= set(heading) and len(one) + len(other) <= 8:
                        made = glued(one, other, x, y)
                        self.assertEqual(made, one + other[:y] + other[y + 1:])
                        self.assertEqual(sorted(all_cores(made)), sorted(all_cores(one) + all_cores(other)))
                        many += 1
        self.assertGreater(many, 20)

    def test_drawn_headings_are_put_behind(self):
        rng = drawn(904)
        for _ in range(100):
            web, heading = drawn_web(rng), drawn_heading(rng)
            if len(web) < 7:
                self.assertEqual(with_heading(web, heading), web + (heading,))
                self.assertEqual(without_heading(with_heading(web, heading), len(web)), web)


if __name__ == "__main__":
    unittest.main()
