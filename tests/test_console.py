"""[10.8]: lines that are said, and answers."""

import unittest

from agreetwo.console import Console
from agreetwo.deeds import deed_text, letters, verdict
from agreetwo.errors import AgreeError, Missing
from agreetwo.house import House
from agreetwo.tabletexts import table_text
from tests.houseways import drawn_deed
from tests.support import any_values, drawn

LINES = ["holder left [a b]", "put left (0 1) 3", "holder right [b c]"]


def desk_with(*lines):
    desk = Console()
    for line in lines:
        desk.say(line)
    return desk


class ByHand(unittest.TestCase):
    def says(self, desk, *lines):
        return [desk.say(line) for line in lines]

    def test_house(self):
        desk = Console()
        house = desk.house()
        self.assertIsInstance(house, House)
        desk.say(LINES[0])
        self.assertIs(desk.house(), house)
        self.assertEqual(len(house), 2)
        house.do(("put", "left", (0, 1), 1))
        self.assertEqual(desk.say("show left"), "[a b] (0 1) 1")
        self.assertIsNot(Console().house(), house)

    def test_the_interface(self):
        desk = Console()
        self.assertEqual(self.says(desk, *LINES, "tell", "letters", "fit left right"),
                         ["1", "2", "3", "apart", "fit right left", "4"])
        self.assertEqual(self.says(desk, "tell", "show right", "show", "at 1", "leave far", "put left", "undo"),
                         ["whole", "[b c] (1 0) 3", "left right", "left", "no UnknownName", "no BadText", "3"])

    def test_nothing_there(self):
        desk = Console()
        self.assertEqual(self.says(desk, "show", "letters", "at 0", "tell"), ["", "", "", "empty"])
        self.assertEqual(self.says(desk, "undo", "redo", "at 1", "show left", "go far", "merge far", "leave far"),
                         ["no NothingDone", "no NothingDone", "no NoMoment", "no UnknownName", "no UnknownName",
                          "no UnknownName", "no UnknownName"])
        self.assertEqual(self.says(desk, "holder left []", "letters", "show left", "show"), ["1", "", "[]", "left"])

    def test_branches(self):
        desk = desk_with(*LINES)
        self.assertEqual(self.says(desk, "undo", "branch side", "go side", "put left (5 5) 1", "go main", "redo"),
                         ["2", "2", "2", "4", "2", "3"])
        self.assertEqual(self.says(desk, "merge side", "merge side", "merge main", "show left", "undo", "undo"),
                         ["5", "5", "5", "[a b] (0 1) 3 (5 5) 1", "3", "2"])
        self.assertEqual(desk.house().branches(), ["main", "side"])
        self.assertEqual(self.says(desk, "branch side", "branch main", "branch Side", "branch", "branch a b"),
                         ["no BadName", "no BadName", "no BadText", "no BadText", "no BadText"])
        self.assertEqual(self.says(desk, "branch a", "branch b", "branch c", "branch d", "branch e", "branch main"),
                         ["2", "2", "2", "2", "no TooMany", "no BadName"])

    def test_the_errors_names(self):
        desk = desk_with(*LINES)
        told = {"holder left []": "BadName", "put far (0) 1": "UnknownName", "put left (0) 1": "NoRow",
                "take left (0 1) 4": "TooFew", "take left (9 9) 1": "TooFew", "rename z a": "UnknownColumn",
                "rename a b": "BadName", "fit left far": "UnknownName", "fit far left": "UnknownName",
                "holder far [d e f g h i]": "TooMany", "put left (0 1) 0": "BadText", "holder far [b a]": "BadText",
                "redo": "NothingDone", "at 4": "NoMoment", "show far": "UnknownName", "go far": "UnknownName",
                "merge far": "UnknownName", "leave far": "UnknownName"}
        twin = desk.house().twin()
        for line, name in told.items():
            self.assertEqual(desk.say(line), "no " + name)
            self.assertEqual(desk.house(), twin)
        desk = desk_with("holder a [x y]", "holder b [y z]", "holder c [x z]")
        self.assertEqual(self.says(desk, "letters", "tell"), ["no Cored", "core"])
        desk = desk_with(*LINES, "branch side", "leave left", "go side", "put left (0 1) 1")
        self.assertEqual(self.says(desk, "merge main", "show left"), ["no Clash", "[a b] (0 1) 4"])

    def test_what_is_no_line(self):
        desk = desk_with(*LINES)
        twin = desk.house().twin()
        wrong = ["", " ", "tell ", " tell", "tell  ", "tell me", "Tell", "tell\n", "undo ", " undo", "undo 1", "redo  ",
                 "redo x", "letters left", "letters ", "show ", "show  left", "show left ", "show left right",
                 "show Left", "show 1", "show ninechars", "show [a]", "go", "go ", "go Main", "go  main", "go main ",
                 "go 1", "go main side", "merge", "merge Main", "merge  main", "merge main ", "branch ", "branch 1",
                 "branch  x", "branch x ", "branch ninechars", "at", "at ", "at 01", "at 00", "at -1", "at +1", "at 1 ",
                 "at  1", "at 1 2", "at x", "at 1.0", "at 1_0", "at \u0661", "at " + "1" * 31, "at 0x1", "state", "do",
                 "len", "house", "twin", "log", "trail main", "place main", "put left", "put left (0 1) 01",
                 "put left (0  1) 1", "put left (0 1) " + "1" * 41, "no", "holder", "at\t1", "tell;tell"]
        for line in wrong:
            self.assertEqual(desk.say(line), "no BadText", line)
        for value in any_values() + [("tell",), ["undo"], b"tell", Console(), House()]:
            self.assertEqual(desk.say(value), "no BadText")
        self.assertEqual(desk.house(), twin)

    def test_numbers_of_thirty_figures_in_lines_and_forty_in_deeds(self):
        desk = desk_with(*LINES)
        self.assertEqual(desk.say("at " + "9" * 30), "no NoMoment")
        self.assertEqual(desk.say("at 1" + "0" * 29), "no NoMoment")
        self.assertEqual(desk.say("at 1" + "0" * 30), "no BadText")
        self.assertEqual(desk.say("put left (9 9) " + "9" * 40), "4")
        self.assertEqual(desk.say("put left (9 9) 1" + "0" * 40), "no BadText")
        self.assertEqual(desk.say("show left"), "[a b] (0 1) 3 (9 9) " + "9" * 40)

    def test_words_as_names(self):
        desk = Console()
        self.assertEqual(self.says(desk, "holder undo []", "holder show [tell]", "branch merge", "go merge", "leave undo",
                                   "merge main", "show show", "show undo", "at 2", "show"),
                         ["1", "2", "2", "2", "3", "3", "[tell]", "no UnknownName", "show undo", "show"])

    def test_two_hundred_moments(self):
        desk = desk_with(*LINES)
        for number in range(4, 200):
            self.assertEqual(desk.say("put left (0 1) 1"), str(number))
        self.assertEqual(self.says(desk, "put left (0 1) 1", "leave far", "undo", "tell", "at 199", "at 200"),
                         ["no TooMany", "no UnknownName", "198", "apart", "left right", "no NoMoment"])


class Drawn(unittest.TestCase):
    def answer(self, house, line):
        """What a line does in a house, by the house's own calls."""
        word, *more = line.split(" ")
        if word == "tell":
            return verdict(house.state())[0]
        if word == "letters":
            return "; ".join(map(deed_text, letters(house.state())))
        if word == "show":
            return table_text(house.state()[more[0]]) if more else " ".join(house.state())
        if word == "at":
            return " ".join(house.state_at(int(more[0])))
        getattr(house, word)(*more)
        return str(house.present())

    def test_against_the_houses_own_calls(self):
        rng = drawn(1021)
        told = {True: 0, False: 0}
        for _ in range(40):
            desk, house = Console(), House()
            for _ in range(50):
                names, holders = house.branches() + ["far"], list(house.state()) or [None]
                asks = ["tell", "letters", "show", "at " + str(rng.randint(0, len(house)))]
                asks += ["show " + holders[0]] if holders[0] else []
                moves = ["undo", "redo"] + [word + rng.choice(names) for word in ("go ", "merge ", "branch ")]
                deed = drawn_deed(rng, house.state())
                line = rng.choice([rng.choice(asks), rng.choice(moves), deed_text(deed), deed_text(deed)])
                before = house.twin()
                try:
                    expected = str(house.do(deed)) if line == deed_text(deed) else self.answer(house, line)
                except (AgreeError, Missing) as error:
                    expected = "no " + error.called
                    self.assertEqual(house, before)
                self.assertEqual(desk.say(line), expected)
                self.assertEqual(desk.house(), house)
                told[expected.startswith("no ")] += 1
        self.assertGreater(min(told.values()), 200)


if __name__ == "__main__":
    unittest.main()
