"""[2.1]: webs."""

import unittest

from agreetwo.webs import columns_of, cut, is_web, largest
from tests.support import CHAIN, RING, SHELL, any_values, drawn, drawn_heading, drawn_web


class IsWeb(unittest.TestCase):
    def test_webs(self):
        for web in [CHAIN, RING, SHELL, ((),), (("a",),), ((), ()), (("a",), ("a",)), (("a", "b"), ("a",), ()),
                    tuple([(column,) for column in "abcdefg"]), (tuple("abcdefgh"),),
                    (("a", "b"),) + (("c", "d"),) + (("e", "f", "g", "h"),), ((),) * 7]:
            self.assertIs(is_web(web), True, web)

    def test_how_many_headings(self):
        self.assertIs(is_web(()), False)
        self.assertIs(is_web((("a",),) * 7), True)
        self.assertIs(is_web((("a",),) * 8), False)
        self.assertIs(is_web(((),) * 8), False)

    def test_how_many_columns(self):
        self.assertIs(is_web((tuple("abcde"), tuple("defgh"))), True)
        self.assertIs(is_web((tuple("abcde"), tuple("efghi"))), False)
        self.assertIs(is_web((tuple("abcdefgh"), ("i",))), False)
        self.assertIs(is_web((tuple("abcdefgh"), tuple("abcdefgh"))), True)
        self.assertIs(is_web((tuple("abcdefghi"),)), False)

    def test_wrong_headings(self):
        for value in [(("b", "a"),), (("a", "a"),), (("A",),), (["a"],), ("a",), "ab", (("a",), None), (("a",), ["b"]),
                      [("a",)], [("a", "b"), ("b", "c")], {("a",): 1}, (("a", 1),), (("a",), ("b", "a")), (1,), (True,)]:
            self.assertIs(is_web(value), False, value)

    def test_any_value(self):
        for value in any_values():
            self.assertIs(is_web(value), isinstance(value, tuple) and value == ((),), value)


class Columns(unittest.TestCase):
    def test_columns_of(self):
        self.assertEqual(columns_of(RING), ("a", "b", "c", "d"))
        self.assertEqual(columns_of((("b", "z"), ("a",), ("b",), ())), ("a", "b", "z"))
        self.assertEqual(columns_of(((),)), ())
        rng = drawn(51)
        for _ in range(100):
            web = drawn_web(rng)
            self.assertEqual(columns_of(web), tuple(sorted({column for heading in web for column in heading})))

    def test_cut(self):
        self.assertEqual(cut(CHAIN, ("b", "d")), (("b",), ("b",), ("d",)))
        self.assertEqual(cut(CHAIN, ()), ((), (), ()))
        self.assertEqual(cut(CHAIN, ("x",)), ((), (), ()))
        self.assertEqual(cut(RING, ("a", "b", "c", "d")), RING)
        self.assertEqual(cut(((), ("a", "c")), ("b", "c")), ((), ("c",)))
        rng = drawn(52)
        for _ in range(100):
            web, columns = drawn_web(rng), drawn_heading(rng)
            made = cut(web, columns)
            self.assertEqual(made, tuple([tuple([c for c in heading if c in columns]) for heading in web]))
            self.assertIs(is_web(made), True)

    def test_largest(self):
        self.assertEqual(largest(cut(CHAIN, ("b", "d"))), [0, 2])
        self.assertEqual(largest(RING), [0, 1, 2, 3])
        self.assertEqual(largest((("a",), ("a", "b"), ("b",), ())), [1])
        self.assertEqual(largest((("a",), ("b",), ("a",), ("b",))), [0, 1])
        self.assertEqual(largest(((), ())), [0])
        self.assertEqual(largest(((),)), [0])
        self.assertEqual(largest(((), ("a",))), [1])
        self.assertEqual(largest((("a", "b"), ("a",), ("a", "b"), ("b", "c"))), [0, 3])

    def test_largest_of_drawn_webs(self):
        rng = drawn(53)
        for _ in range(200):
            web = drawn_web(rng, widest=3)
            sets = [set(heading) for heading in web]
            expected = [x for x in range(len(web))
                        if not any(sets[x] < other for other in sets) and sets[x] not in sets[:x]]
            self.assertEqual(largest(web), expected)

    def test_returned_lists_are_new(self):
        largest(RING).clear()
        self.assertEqual(largest(RING), [0, 1, 2, 3])
        self.assertIsInstance(largest(RING), list)


if __name__ == "__main__":
    unittest.main()
