"""[1.8]: tables as texts."""

import re
import unittest

from agreetwo.errors import BadHeading, BadRow, BadText
from agreetwo.tables import Table
from agreetwo.tabletexts import read_table, table_text
from tests.support import AB, LEFT, any_values, drawn, drawn_heading, drawn_table, raised

FORM = re.compile(r"\[((?:[a-z]{1,8}(?: [a-z]{1,8})*)?)\]((?: \([0-9 ]*\) [1-9][0-9]{0,79})*)")
VALUE = re.compile(r"0|[1-9][0-9]?")


def is_of_form(text):
    """Whether a text is one of a table, by regular expressions."""
    found = FORM.fullmatch(text)
    if not found:
        return False
    many = len(found[1].split(" ")) if found[1] else 0
    for row in re.findall(r"\(([0-9 ]*)\)", found[2]):
        values = row.split(" ") if row else []
        if len(values) != many or not all(VALUE.fullmatch(value) for value in values):
            return False
    return True


def endings():
    rows = ["0" * k + " 0" * many + ") 1" for many in range(6) for k in (0, 1)]
    starts = ["", " ", "(", " ("]
    return ["", "]", "a]", "[]", "1", " 1"] + [start + row for start in starts for row in rows]


ENDINGS = endings()


def bad_place(text):
    """The place that [1.8] asks for, None for a right text: some ending is tried behind each beginning."""
    for k in range(len(text)):
        if not any(is_of_form(text[:k + 1] + ending) for ending in ENDINGS):
            return k
    return None if is_of_form(text) else len(text)


class Writing(unittest.TestCase):
    def test_by_hand(self):
        self.assertEqual(table_text(LEFT), "[a b] (0 1) 5 (2 2) 1")
        self.assertEqual(table_text(Table((), [((), 5)])), "[] () 5")
        self.assertEqual(table_text(Table((), [])), "[]")
        self.assertEqual(table_text(Table(("abc", "b"), [])), "[abc b]")
        self.assertEqual(table_text(Table(("a",), [((99,), 10 ** 30), ((0,), 1)])), "[a] (0) 1 (99) 1" + "0" * 30)

    def test_there_and_back(self):
        rng = drawn(41)
        for _ in range(200):
            table = drawn_table(rng, drawn_heading(rng), values=99, most=10 ** 30 - 1)
            self.assertTrue(is_of_form(table_text(table)))
            self.assertEqual(read_table(table_text(table)), table)


class Reading(unittest.TestCase):
    def test_right_texts(self):
        self.assertEqual(read_table("[]"), Table((), []))
        self.assertEqual(read_table("[] () 5"), Table((), [((), 5)]))
        self.assertEqual(read_table("[a]"), Table(("a",), []))
        self.assertEqual(read_table("[abcdefgh] (0) 1"), Table(("abcdefgh",), [((0,), 1)]))
        self.assertEqual(read_table("[a b] (0 1) 5 (2 2) 1"), LEFT)
        self.assertEqual(read_table("[a] (9) 1 (10) 2 (99) " + "9" * 80).counts()[2], ((99,), 10 ** 80 - 1))

    def test_bad_places_by_hand(self):
        places = {
            "": 0, "a": 0, " []": 0, "(": 0, "[": 1, "[ ": 1, "[a": 2, "[A]": 1, "[a,b]": 2, "[a  b]": 3, "[a ]": 3,
            "[abcdefghi]": 9, "[abcdefgh": 9, "[a abcdefghi]": 11, "[a b": 4, "[a]]": 3, "[] ": 3, "[]  (": 3,
            "[a] (": 5, "[a] [": 4, "[a] ()": 5, "[] (0)": 4, "[] (": 4, "[] ()": 5, "[] () ": 6, "[] () 0": 6,
            "[] () 01": 6, "[] () -1": 6, "[] () 1 ": 8, "[] () 1a": 7, "[] () 1(": 7, "[] () 1 () ": 11,
            "[a] (00) 1": 6, "[a] (07) 1": 6, "[a] (100) 1": 7, "[a] (-1) 1": 5, "[a] (99": 7, "[a] (1 2) 1": 6,
            "[a b] (0) 1": 8, "[a b] (0  1) 1": 9, "[a b] (0 1 2) 1": 10, "[a b] (0 1)5": 11, "[a b] (0 1) 5\n": 13,
            "[a]\t(0) 1": 3, "[a] (0) 1 (0) 2 (": 17, "[a] (0) " + "1" * 81: 88, "[a] (0) " + "1" * 80 + " ": 89,
        }
        for text, place in places.items():
            self.assertEqual(raised(BadText, read_table, text).place, place, text)
            self.assertEqual(bad_place(text), place, text)

    def test_what_is_no_string(self):
        for value in any_values() + [["[]"], b"[]", ("[", "]")]:
            if not isinstance(value, str):
                self.assertEqual(raised(BadText, read_table, value).place, 0)

    def test_all_short_beginnings(self):
        text = "[a b] (0 17) 25 (3 4) 1"
        for k in range(len(text)):
            place = bad_place(text[:k])
            if place is None:
                self.assertEqual(table_text(read_table(text[:k])), text[:k])
            else:
                self.assertEqual([place, raised(BadText, read_table, text[:k]).place], [k, k])

    def test_drawn_texts_with_faults(self):
        rng = drawn(42)
        signs = "[]() 0123456789abz\n,-A"
        for _ in range(1500):
            text = table_text(drawn_table(rng, drawn_heading(rng, "abc"), rows=3, values=30, most=30))
            for _ in range(rng.randint(1, 2)):
                k = rng.randint(0, len(text))
                text = text[:k] + rng.choice(["", rng.choice(signs)]) + text[k + rng.randint(0, 1):]
            place = bad_place(text)
            if place is not None:
                self.assertEqual(raised(BadText, read_table, text).place, place, text)
                continue
            try:
                self.assertEqual(table_text(read_table(text)), text)
            except (BadHeading, BadRow):
                pass

    def test_bad_headings(self):
        many = tuple("abcdefghi")
        cases = {"[b a]": ("b", "a"), "[a a]": ("a", "a"), "[a b a] (0 0 0) 1": ("a", "b", "a"),
                 "[" + " ".join(many) + "] (0 0 0 0 0 0 0 0 0) 1": many, "[b a] (1 1) 1 (0 0) 1": ("b", "a")}
        for text, heading in cases.items():
            error = raised(BadHeading, read_table, text)
            self.assertEqual(error.heading, heading)
            self.assertIsInstance(error.heading, tuple)

    def test_bad_text_comes_before_bad_heading(self):
        self.assertEqual(raised(BadText, read_table, "[b a] (0) 1").place, 8)
        self.assertEqual(raised(BadText, read_table, "[a] (1) 1 (0) 0").place, 14)

    def test_bad_rows(self):
        cases = {"[a] (0) 1 (0) 2": 1, "[a] (1) 1 (0) 1": 1, "[a] (0) 1 (1) 1 (1) 1": 2, "[] () 1 () 1": 1,
                 "[a b] (0 1) 1 (0 0) 1 (0 0) 1": 1, "[a] (9) 1 (10) 1 (9) 1": 2, "[a b] (0 9) 1 (1 0) 1 (0 10) 1": 2}
        for text, number in cases.items():
            self.assertEqual(raised(BadRow, read_table, text).number, number, text)

    def test_rows_ascend_as_numbers(self):
        self.assertEqual(read_table("[a] (2) 1 (10) 1"), Table(("a",), [((2,), 1), ((10,), 1)]))
        self.assertEqual(read_table("[a b] (0 9) 1 (0 10) 1 (1 0) 1").rows(), [(0, 9), (0, 10), (1, 0)])
        self.assertEqual(read_table("[a b]").heading(), AB)


if __name__ == "__main__":
    unittest.main()
