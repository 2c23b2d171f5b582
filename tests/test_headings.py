"""[1.1]: columns, headings, rows."""

import unittest

from agreetwo.headings import beyond, is_heading, part, shared, together
from tests.support import any_values, drawn, drawn_heading


class IsHeading(unittest.TestCase):
    def test_headings(self):
        for heading in [(), ("a",), ("a", "b"), ("aa", "ab", "b"), ("a", "aa"), ("abcdefgh",), ("zzzzzzzz",),
                        tuple("abcdefgh"), tuple("stuvwxyz")]:
            self.assertIs(is_heading(heading), True, heading)

    def test_no_columns(self):
        for column in ["", "A", "aB", "a1", "a ", " a", "a\n", "a\t", "~", "`", "{", "abcdefghi", "a_b", 1, True, None,
                       b"a", ("a",), ["a"], {"a": 1}]:
            self.assertIs(is_heading((column,)), False, column)
            self.assertIs(is_heading(("a", column)), False, column)

    def test_order_likes_and_number(self):
        for value in [("b", "a"), ("a", "a"), ("a", "c", "b"), ("b", "a", "c"), ("ab", "a"), ("a", "b", "b"),
                      tuple("abcdefghi"), ("a", "b", 3)]:
            self.assertIs(is_heading(value), False, value)

    def test_other_kinds(self):
        for value in any_values():
            expected = isinstance(value, tuple) and value in [(), ("a",)]
            self.assertIs(is_heading(value), expected, value)
        for value in ["ab", "", ["a"], [], {"a": 1}, {}]:
            self.assertIs(is_heading(value), False, value)


class Both(unittest.TestCase):
    def test_by_hand(self):
        one, other = ("a", "b", "d"), ("b", "c", "d", "e")
        self.assertEqual(shared(one, other), ("b", "d"))
        self.assertEqual(shared(other, one), ("b", "d"))
        self.assertEqual(together(one, other), ("a", "b", "c", "d", "e"))
        self.assertEqual(together(other, one), ("a", "b", "c", "d", "e"))
        self.assertEqual(beyond(one, other), ("a",))
        self.assertEqual(beyond(other, one), ("c", "e"))

    def test_edges(self):
        self.assertEqual([shared((), ()), together((), ()), beyond((), ())], [(), (), ()])
        self.assertEqual([shared((), ("a",)), together((), ("a",)), beyond((), ("a",))], [(), ("a",), ()])
        self.assertEqual([shared(("a",), ()), together(("a",), ()), beyond(("a",), ())], [(), ("a",), ("a",)])
        self.assertEqual([shared(("a",), ("b",)), together(("b",), ("a",))], [(), ("a", "b")])
        self.assertEqual(together(("a", "b"), ("aa",)), ("a", "aa", "b"))

    def test_drawn(self):
        rng = drawn(11)
        for _ in range(300):
            one, other = drawn_heading(rng), drawn_heading(rng)
            self.assertEqual(shared(one, other), tuple(sorted(set(one) & set(other))))
            self.assertEqual(together(one, other), tuple(sorted(set(one) | set(other))))
            self.assertEqual(beyond(one, other), tuple(sorted(set(one) - set(other))))
            for made in (shared(one, other), together(one, other), beyond(one, other)):
                self.assertIs(is_heading(made), True)


class Part(unittest.TestCase):
    def test_by_hand(self):
        self.assertEqual(part(("a", "b", "d"), (7, 0, 99), ("b", "c", "d")), (0, 99))
        self.assertEqual(part(("a", "b"), (7, 2), ("a", "b")), (7, 2))
        self.assertEqual(part(("a", "b"), (7, 2), ()), ())
        self.assertEqual(part(("a", "b"), (7, 2), ("c",)), ())
        self.assertEqual(part((), (), ("a",)), ())

    def test_drawn(self):
        rng = drawn(12)
        for _ in range(300):
            heading, columns = drawn_heading(rng), drawn_heading(rng)
            row = tuple([rng.randint(0, 99) for _ in heading])
            values = dict(zip(heading, row))
            self.assertEqual(part(heading, row, columns), tuple([values[c] for c in shared(heading, columns)]))


if __name__ == "__main__":
    unittest.main()
