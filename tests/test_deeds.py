"""[10.1] to [10.3] and [10.7]: states, deeds, letters, verdicts and texts."""

import unittest

from agreetwo.cores import core
from agreetwo.deeds import behind, deed_text, family_of, fitted, letters, read_deed, verdict, web_of
from agreetwo.ears import folding, root
from agreetwo.errors import (BadDeed, BadHeading, BadName, BadNumber, BadText, Cored, NoRow, TooFew, TooMany,
                             UnknownColumn, UnknownName)
from agreetwo.families import disagreement
from agreetwo.tables import Table, agree, summed
from agreetwo.wholes import whole
from tests.houseways import WORDS as NAMES
from tests.houseways import drawn_deed, plain, slow_behind, slow_fitted
from tests.support import (AB, BC, any_values, cored_web, drawn, drawn_heading, drawn_table, grown_web, ones, raised)

ERRORS = {kind.__name__: kind for kind in (BadDeed, BadHeading, BadName, BadNumber, NoRow, TooFew, TooMany,
                                           UnknownColumn, UnknownName)}
BORNE = {"BadHeading": "heading", "BadName": "name", "BadNumber": "number", "NoRow": "row", "TooFew": "row",
         "UnknownColumn": "column", "UnknownName": "name"}
LEFT, RIGHT = Table(AB, [((0, 1), 2)]), Table(BC, [((1, 5), 3)])
STATE = {"left": LEFT, "right": RIGHT}
SOME = Table(BC, [((1, 5), 3), ((1, 7), 2), ((2, 0), 4)])
WORDS = ["holder", "leave", "put", "take", "rename", "fit"]


def state_of(*deeds):
    state = {}
    for deed in deeds:
        state = behind(state, deed)
    return state


def drawn_state(rng, steps):
    """A state behind so many drawn deeds."""
    state = {}
    for _ in range(steps):
        deed = drawn_deed(rng, state)
        if slow_behind(plain(state), deed)[0] is None:
            state = behind(state, deed)
    return state


def state_over(rng, web):
    """A state of a web, with drawn tables."""
    names = sorted(rng.sample(NAMES, len(web)))
    return {name: drawn_table(rng, heading) for name, heading in zip(names, web)}


class Behind(unittest.TestCase):
    def check(self, state, deed):
        """behind as the slow way tells; the state that is passed stays as it is, and the new one is a new dict."""
        before = plain(state)
        told, made = slow_behind(before, deed)
        if told is None:
            new = behind(state, deed)
            self.assertEqual(plain(new), made)
            self.assertEqual(list(new), sorted(new))
            self.assertIsNot(new, state)
        else:
            error = raised(ERRORS[told], behind, state, deed)
            if told in BORNE:
                self.assertEqual(getattr(error, BORNE[told]), made, deed)
                self.assertIs(getattr(error, BORNE[told]).__class__, made.__class__)
        self.assertEqual(plain(state), before)
        return told

    def test_by_hand(self):
        state = state_of(("holder", "right", BC), ("holder", "left", AB))
        self.assertEqual(list(state), ["left", "right"])
        self.assertEqual([web_of(state), family_of(state)], [(AB, BC), [Table(AB, []), Table(BC, [])]])
        state = behind(state, ("put", "left", (0, 1), 2))
        self.assertEqual(state["left"], LEFT)
        self.assertEqual(behind(state, ("put", "left", (0, 1), 10 ** 30))["left"].times((0, 1)), 10 ** 30 + 2)
        self.assertEqual(behind(state, ("take", "left", (0, 1), 1))["left"].counts(), [((0, 1), 1)])
        self.assertEqual(behind(state, ("take", "left", (0, 1), 2))["left"], Table(AB, []))
        self.assertEqual(list(behind(state, ("leave", "left"))), ["right"])
        self.assertEqual(behind(behind(state, ("leave", "left")), ("leave", "right")), {})
        self.assertEqual(behind({}, ("holder", "far", ())), {"far": Table((), [])})

    def test_rename(self):
        self.assertEqual(behind(STATE, ("rename", "b", "z")),
                         {"left": Table(("a", "z"), [((0, 1), 2)]), "right": Table(("c", "z"), [((5, 1), 3)])})
        self.assertEqual(behind(STATE, ("rename", "b", "b")), STATE)
        self.assertEqual(behind(STATE, ("rename", "c", "d"))["left"], LEFT)
        self.assertEqual(behind({"one": ones(("b", "c", "d"), (1, 2, 3))}, ("rename", "d", "a")),
                         {"one": ones(("a", "b", "c"), (3, 1, 2))})
        eight = {"one": ones(tuple("abcdefgh"), tuple(range(8)))}
        self.assertEqual(behind(eight, ("rename", "a", "z")), {"one": ones(tuple("bcdefghz"), (1, 2, 3, 4, 5, 6, 7, 0))})

    def test_fit(self):
        self.assertEqual(behind(STATE, ("fit", "left", "right"))["right"].counts(), [((1, 5), 2)])
        self.assertEqual(behind(STATE, ("fit", "right", "left"))["left"].counts(), [((0, 1), 3)])
        self.assertEqual(behind(STATE, ("fit", "left", "left")), STATE)
        self.assertEqual(behind(STATE, ("fit", "right", "left"))["right"], RIGHT)

    def test_bad_deed_of_every_value(self):
        wrong = [(), ("holder",), ("holder", "a"), ("holder", "a", (), 1), ("leave",), ("leave", "left", "right"),
                 ("put", "left", (0, 1)), ("put", "left", (0, 1), 1, 1), ("take", "left"), ("rename", "a"),
                 ("rename", "a", "b", "c"), ("fit", "left"), ("fit", "left", "right", "left"), ("Holder", "a", ()),
                 ("hold", "a", ()), (["holder"], "a", ()), (None, "a", ()), (("holder",), "a", ()), ("", "a", ()),
                 ["holder", "far", ()], ["leave", "left"], "leave", (True, "left"), ({}, "left"), ("undo",)]
        for deed in wrong + any_values():
            raised(BadDeed, behind, STATE, deed)
            raised(BadDeed, behind, {}, deed)

    def test_holder_errors(self):
        for name in ["left", "right", "", "ninechars", "A", "a b", 0, None, True, ("far",), ["far"]] + any_values():
            if name not in ("a", "ab"):
                for heading in [AB, ["z"], None]:
                    self.assertEqual(raised(BadName, behind, STATE, ("holder", name, heading)).name, name)
        for heading in [["a"], ("b", "a"), ("a", "a"), ("A",), None, 0] + any_values():
            if heading not in ((), ("a",)):
                error = raised(BadHeading, behind, STATE, ("holder", "far", heading))
                self.assertEqual(error.heading, heading)
                self.assertIs(error.heading.__class__, heading.__class__)

    def test_too_many_holders_and_columns(self):
        state = state_of(*[("holder", name, ("a",)) for name in "abcdefg"])
        raised(TooMany, behind, state, ("holder", "h", ("a",)))
        raised(TooMany, behind, state, ("holder", "h", ()))
        self.assertEqual(raised(BadName, behind, state, ("holder", "g", ())).name, "g")
        self.assertEqual(raised(BadHeading, behind, state, ("holder", "h", ("b", "a"))).heading, ("b", "a"))
        state = state_of(("holder", "one", tuple("abcde")))
        raised(TooMany, behind, state, ("holder", "two", tuple("efghi")))
        self.assertEqual(len(behind(state, ("holder", "two", tuple("efgh")))), 2)

    def test_unknown_names(self):
        for name in ["far", "", "A", 0, None, True, ("left",), ["left"], {}] + any_values():
            for deed in [("leave", name), ("put", name, None, None), ("take", name, None, None), ("fit", name, "far"),
                         ("fit", "left", name)]:
                error = raised(UnknownName, behind, STATE, deed)
                self.assertEqual(error.name, name)
                self.assertIs(error.name.__class__, name.__class__)
            self.assertEqual(raised(UnknownName, behind, {}, ("fit", name, "left")).name, name)
        self.assertEqual(raised(UnknownName, behind, STATE, ("fit", "no", "none")).name, "no")

    def test_no_row_then_bad_number_then_too_few(self):
        rows = any_values() + [[0, 1], (0,), (0, 1, 2), (0, True), (False, 1), (0, 100), (-1, 0), (0, "1"), (0, None)]
        for word in ("put", "take"):
            for row in rows:
                if row != (0, 1) or row.__class__ is not tuple or row[0].__class__ is bool:
                    for n in (1, None, 0, [1]):
                        error = raised(NoRow, behind, STATE, (word, "left", row, n))
                        self.assertEqual(error.row, row)
                        self.assertIs(error.row.__class__, row.__class__)
            for n in [0, -1, True, False, None, "1", (1,), [1]] + any_values():
                if n.__class__ is not int or n < 1:
                    for row in [(0, 1), (7, 7)]:
                        error = raised(BadNumber, behind, STATE, (word, "left", row, n))
                        self.assertEqual(error.number, n)
                        self.assertIs(error.number.__class__, n.__class__)
        self.assertEqual(raised(TooFew, behind, STATE, ("take", "left", (0, 1), 3)).row, (0, 1))
        self.assertEqual(raised(TooFew, behind, STATE, ("take", "left", (7, 7), 1)).row, (7, 7))
        self.assertEqual(raised(TooFew, behind, STATE, ("take", "left", (0, 1), 10 ** 39)).row, (0, 1))

    def test_rename_errors(self):
        for old in ["z", "", "left", 0, None, True, ("a",), ["a"], {}] + [one for one in any_values() if one != "a"]:
            for new in ("z", "b", None):
                error = raised(UnknownColumn, behind, STATE, ("rename", old, new))
                self.assertEqual(error.column, old)
                self.assertIs(error.column.__class__, old.__class__)
            self.assertEqual(raised(UnknownColumn, behind, {}, ("rename", old, "z")).column, old)
        for new in ["b", "c", "", "A", "ninechars", 0, None, True, ("z",), ["z"]] + any_values():
            if new not in ("a", "ab"):
                error = raised(BadName, behind, STATE, ("rename", "a", new))
                self.assertEqual(error.name, new)
                self.assertIs(error.name.__class__, new.__class__)

    def test_what_is_borne_is_a_copy(self):
        row = [0, [1]]
        error = raised(NoRow, behind, STATE, ("put", "left", row, 1))
        row[1].append(2)
        self.assertEqual(error.row, [0, [1]])

    def test_drawn(self):
        rng = drawn(1001)
        told = {}
        for _ in range(60):
            state = {}
            for _ in range(25):
                deed = drawn_deed(rng, state)
                key = (deed[0], self.check(state, deed))
                told[key] = told.get(key, 0) + 1
                if key[1] is None:
                    state = behind(state, deed)
        for word in WORDS:
            self.assertGreater(told[word, None], 20, told)

    def test_drawn_deeds_of_any_parts(self):
        rng = drawn(1002)
        values = ["left", "right", "a", "b", (0, 1), (1, 5), 1, 2, True, None, [0, 1], AB, "z"] + any_values()
        for _ in range(600):
            deed = tuple([rng.choice(WORDS)] + [rng.choice(values[:13] if rng.random() < 0.8 else values)
                                                for _ in range(rng.randint(1, 3))])
            self.check(STATE, deed)


class Fitted(unittest.TestCase):
    def test_by_hand(self):
        one = Table(AB, [((0, 1), 4), ((0, 3), 1)])
        self.assertEqual(fitted(one, SOME).counts(), [((1, 5), 3), ((1, 7), 1), ((3, 0), 1)])

    def test_taken_from_the_last_one_on(self):
        other = Table(BC, [((1, 1), 2), ((1, 2), 2), ((1, 3), 2), ((2, 0), 1)])
        for left, counts in [(6, [2, 2, 2]), (5, [2, 2, 1]), (4, [2, 2, 0]), (3, [2, 1, 0]), (1, [1, 0, 0]), (0, [])]:
            one = Table(AB, [((0, 1), left), ((5, 2), 1)])
            expected = [((1, k + 1), n) for k, n in enumerate(counts) if n] + [((2, 0), 1)]
            self.assertEqual(fitted(one, other).counts(), expected)

    def test_put_to_the_first_one(self):
        other = Table(BC, [((1, 4), 2), ((1, 2), 2), ((1, 3), 2)])
        self.assertEqual(fitted(Table(AB, [((0, 1), 9)]), other).counts(), [((1, 2), 5), ((1, 3), 2), ((1, 4), 2)])
        self.assertEqual(fitted(Table(AB, [((0, 7), 2), ((1, 7), 1)]), Table(BC, [])).counts(), [((7, 0), 3)])

    def test_nothing_shared(self):
        one, other = Table(("a",), [((3,), 5)]), Table(("b",), [((1,), 1), ((2,), 1)])
        self.assertEqual(fitted(one, other).counts(), [((1,), 4), ((2,), 1)])
        self.assertEqual(fitted(other, one).counts(), [((3,), 2)])
        self.assertEqual(fitted(one, Table(("b",), [])).counts(), [((0,), 5)])
        self.assertEqual(fitted(Table(("a",), []), other), Table(("b",), []))
        self.assertEqual(fitted(Table((), [((), 3)]), Table((), [])), Table((), [((), 3)]))

    def test_drawn(self):
        rng = drawn(1003)
        changed = 0
        for _ in range(500):
            one = drawn_table(rng, drawn_heading(rng, "abcd", 3), rows=6, values=1, most=5)
            other = drawn_table(rng, drawn_heading(rng, "abcd", 3), rows=6, values=1, most=5)
            made = fitted(one, other)
            told = plain({"one": one, "other": other})
            self.assertEqual((made.heading(), dict(made.counts())), slow_fitted(told["one"], told["other"]))
            self.assertIsNone(agree(one, made))
            self.assertEqual(fitted(one, made), made)
            if agree(one, other) is None:
                self.assertEqual(made, other)
            changed += made != other
        self.assertGreater(changed, 200)

    def test_great_counts(self):
        most = 10 ** 30 - 1
        one, other = Table(AB, [((0, 1), most)]), Table(BC, [((1, 0), 7), ((2, 0), most)])
        self.assertEqual(fitted(one, other).counts(), [((1, 0), most)])


class Letters(unittest.TestCase):
    def test_by_hand(self):
        self.assertEqual(letters(STATE), [("fit", "right", "left")])
        self.assertEqual(letters({}), [])
        self.assertEqual(letters({"left": LEFT}), [])

    def test_cored(self):
        state = state_of(("holder", "a", AB), ("holder", "b", BC), ("holder", "c", ("a", "c")))
        self.assertEqual(raised(Cored, letters, state).core, ("shell", ("a", "b", "c")))

    def test_done_one_behind_the_other_all_agree_and_the_root_stays(self):
        rng = drawn(1004)
        told, fits = {True: 0, False: 0}, 0
        for n in range(150):
            state = state_over(rng, grown_web(rng, 7, 8, 2) if n % 3 else cored_web(rng))
            state = drawn_state(rng, 20) if n % 5 == 0 else state
            if not state:
                continue
            web, names = web_of(state), list(state)
            pairs = folding(web)
            if pairs is None:
                self.assertEqual(raised(Cored, letters, state).core, core(web))
            else:
                deeds = letters(state)
                self.assertEqual(deeds, [("fit", names[y], names[x]) for x, y in reversed(pairs)])
                made = state
                for deed in deeds:
                    made = behind(made, deed)
                    fits += made != state
                top = names[root(web, pairs)]
                self.assertEqual(made[top], state[top])
                self.assertIsNone(disagreement(web, family_of(made)))
                self.assertEqual(verdict(made), ("whole", whole(web, family_of(made))))
            told[pairs is None] += 1
        self.assertGreater(min(told.values()), 10)
        self.assertGreater(fits, 100)


class Verdict(unittest.TestCase):
    def test_by_hand(self):
        self.assertEqual(verdict({}), ("empty",))
        self.assertEqual(verdict(STATE), ("apart", "left", "right", (1,)))
        self.assertEqual(verdict({"left": LEFT}), ("whole", LEFT))
        self.assertEqual(verdict(behind(STATE, ("fit", "right", "left")))[1].counts(), [((0, 1, 5), 3)])
        state = state_of(("holder", "a", AB), ("holder", "b", BC), ("holder", "c", ("a", "c")))
        self.assertEqual(verdict(state), ("core", ("shell", ("a", "b", "c"))))
        # The core comes ahead of what does not agree.
        self.assertEqual(verdict(behind(state, ("put", "a", (0, 0), 1)))[0], "core")

    def test_drawn(self):
        rng = drawn(1005)
        told = {}
        for n in range(200):
            state = drawn_state(rng, rng.choice([0, 6, 20]))
            if n % 4 == 0:
                state = state_over(rng, grown_web(rng, 7, 8, 2) if n % 8 else cored_web(rng))
            if n % 3 == 0 and state and folding(web_of(state)) is not None:
                for deed in letters(state):
                    state = behind(state, deed)
            web, family, names = web_of(state), family_of(state), list(state)
            expected = ("empty",)
            if names and folding(web) is None:
                expected = ("core", core(web))
            elif names:
                unlike = disagreement(web, family)
                expected = ("whole", whole(web, family)) if unlike is None else \
                    ("apart", names[unlike[0]], names[unlike[1]], unlike[2])
            self.assertEqual(verdict(state), expected)
            self.assertIsInstance(verdict(state), tuple)
            told[expected[0]] = told.get(expected[0], 0) + 1
        for word in ("empty", "core", "apart", "whole"):
            self.assertGreater(told[word], 5, told)

    def test_returned_lists_are_new(self):
        family_of(STATE).clear()
        letters(STATE).clear()
        self.assertEqual((len(family_of(STATE)), len(letters(STATE))), (2, 1))

    def test_names_in_order_whatever_the_dict(self):
        turned = {"right": RIGHT, "left": LEFT}
        self.assertEqual((web_of(turned), family_of(turned)), ((AB, BC), [LEFT, RIGHT]))
        self.assertEqual((letters(turned), verdict(turned)), (letters(STATE), verdict(STATE)))
        self.assertEqual(list(behind(turned, ("fit", "left", "left"))), ["left", "right"])


TEXTS = {
    "holder far []": ("holder", "far", ()),
    "holder far [a]": ("holder", "far", ("a",)),
    "holder far [a b eightlet]": ("holder", "far", ("a", "b", "eightlet")),
    "leave left": ("leave", "left"),
    "put left (0 1) 2": ("put", "left", (0, 1), 2),
    "put left () 1": ("put", "left", (), 1),
    "take left (99 0 10) 100": ("take", "left", (99, 0, 10), 100),
    "put a (0 1 2 3 4 5 6 7) " + "9" * 40: ("put", "a", (0, 1, 2, 3, 4, 5, 6, 7), 10 ** 40 - 1),
    "rename old new": ("rename", "old", "new"),
    "rename a a": ("rename", "a", "a"),
    "fit right left": ("fit", "right", "left"),
    "holder holder []": ("holder", "holder", ()),
    "leave put": ("leave", "put"),
    "fit fit fit": ("fit", "fit", "fit"),
    "take a (0) 1": ("take", "a", (0,), 1),
}


class Texts(unittest.TestCase):
    def test_by_hand(self):
        for text, deed in TEXTS.items():
            self.assertEqual(deed_text(deed), text)
            self.assertEqual(read_deed(text), deed)
            self.assertIsInstance(read_deed(text), tuple)

    def test_not_of_the_form(self):
        wrong = ["", " ", "holder", "holder far", "holder far ", "holder far [", "holder far ]", "holder far [ ]",
                 "holder far [a", "holder far a]", "holder far [a ]", "holder far [ a]", "holder far [a  b]",
                 "holder far [b a]", "holder far [a a]", "holder far [A]", "holder far [ninechars]", "holder far[a]",
                 "holder far []a", "holder far [] ", " holder far []", "holder  far []", "holder Far []",
                 "holder ninechars []", "holder far (a)", "holder far [a] [b]", "holder far [a b c d e f g h i]",
                 "holder far [a]\n", "holder\tfar [a]", "holder [] []", "holder far [a,b]", "holder far [[a]]",
                 "leave", "leave ", "leave left ", "leave  left", "leave left right", "leave Left", "Leave left",
                 "leave left\n", "leave 1", "put left (0 1)", "put left (0 1) ", "put left (0 1) 0", "put left (0 1) 01",
                 "put left (0 1) +1", "put left (0 1) -1", "put left (0 1) 1.0", "put left (0 1) 1 ",
                 "put left (0 1)  1", "put left  (0 1) 1", "put left (0  1) 1", "put left (0 1 ) 1", "put left ( 0 1) 1",
                 "put left (00 1) 1", "put left (0 01) 1", "put left (0 100) 1", "put left (-1 0) 1", "put left ( ) 1",
                 "put left (0 a) 1", "put left (0 1 1", "put left 0 1) 1", "put left [0 1] 1", "put left 0 1 1",
                 "put left 1", "put left", "put", "put (0 1) 1", "put left (0 1) " + "1" * 41, "put left (0 1) one",
                 "put left (0 1) 1_0", "put left (0 1) \u0661", "put left (\u0661 1) 1", "put left (0\n1) 1",
                 "put left (0 0 0 0 0 0 0 0 0) 1", "take left (0 1) 0", "take left", "rename a", "rename a b c",
                 "rename a 1", "rename A b", "rename a  b", "rename a b ", "rename", "fit a", "fit a b c", "fit a [b]",
                 "undo", "redo", "tell", "go main", "merge main", "at 0", "()", "[]", "hold far []", "puts left (0) 1",
                 "put left (0 1) 1 1", "put left (0 1) (1)", "put left (0 1) 1\t", "leave left leave"]
        for text in wrong:
            self.assertEqual(raised(BadText, read_deed, text).place, 0, text)

    def test_every_value_that_is_no_text(self):
        for value in any_values() + [("leave", "left"), ["leave left"], b"leave left"]:
            self.assertEqual(raised(BadText, read_deed, value).place, 0)

    def test_each_text_with_a_sign_changed_left_out_or_put_in(self):
        signs = " []()09a-+Z\n\t~"
        for text, deed in TEXTS.items():
            for k in range(len(text) + 1):
                others = [text[:k] + sign + text[k:] for sign in signs]
                if k < len(text):
                    others += [text[:k] + text[k + 1:]] + [text[:k] + sign + text[k + 1:] for sign in signs]
                for other in others:
                    try:
                        told = read_deed(other)
                    except BadText as error:
                        self.assertEqual(error.place, 0)
                    else:
                        # What is read is of the form, so its own text is the one that was read.
                        self.assertEqual(deed_text(told), other)
                        self.assertEqual(told == deed, other == text)

    def test_drawn(self):
        rng = drawn(1006)
        many = 0
        for _ in range(40):
            state = {}
            for _ in range(20):
                deed = drawn_deed(rng, state)
                if slow_behind(plain(state), deed)[0] is None:
                    self.assertEqual(read_deed(deed_text(deed)), deed)
                    state = behind(state, deed)
                    many += 1
        self.assertGreater(many, 300)

    def test_whether_a_state_lets_it_or_not(self):
        self.assertEqual(read_deed("take nobody (5 5 5) 7"), ("take", "nobody", (5, 5, 5), 7))
        self.assertEqual(raised(UnknownName, behind, {}, read_deed("leave nobody")).name, "nobody")


class Sums(unittest.TestCase):
    def test_what_is_led_has_the_sums(self):
        rng = drawn(1007)
        for _ in range(60):
            one, other = drawn_table(rng, AB), drawn_table(rng, BC)
            self.assertEqual(summed(fitted(one, other), AB), summed(one, BC))


if __name__ == "__main__":
    unittest.main()
