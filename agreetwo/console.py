"""A console: lines that say what is done in a house, and answers."""

from agreetwo.deeds import deed_text, is_figures, letters, read_deed, table_of, verdict
from agreetwo.errors import AgreeError, Missing
from agreetwo.headings import is_word
from agreetwo.house import House
from agreetwo.tabletexts import table_text

MOST_FIGURES = 30


def asked(house, words):
    """The answer to the words of a line that asks and changes nothing; None for other words."""
    if words == ["tell"]:
        return verdict(house.state())[0]
    if words == ["letters"]:
        return "; ".join([deed_text(deed) for deed in letters(house.state())])
    if words == ["show"]:
        return " ".join(list(house.state()))
    if len(words) != 2:
        return None
    word, told = words
    if word == "show" and is_word(told):
        return table_text(table_of(house.state(), told))
    if word == "at" and is_figures(told, MOST_FIGURES):
        return " ".join(list(house.state_at(int(told))))
    return None


def carry_out(house, words):
    """Whether these are the words of a line that does something but is no deed's text; if so, it is done."""
    if words == ["undo"]:
        house.undo()
    elif words == ["redo"]:
        house.redo()
    elif len(words) != 2 or not is_word(words[1]):
        return False
    elif words[0] == "go":
        house.go(words[1])
    elif words[0] == "merge":
        house.merge(words[1])
    elif words[0] == "branch":
        house.branch(words[1])
    else:
        return False
    return True


def answer(house, line):
    """The answer to a line, any value, that is right; it raises what is wrong."""
    words = line.split(" ") if isinstance(line, str) else []
    told = asked(house, words)
    if told is not None:
        return told
    if not carry_out(house, words):
        house.do(read_deed(line))
    return str(house.present())


class Console:
    """A house of its own, and what lines do in it."""

    def __init__(self):
        self._house = House()

    def house(self):
        """The house, always the same one."""
        return self._house

    def say(self, line):
        """The answer to a line, any value; "no" and the error's name if it cannot be done."""
        try:
            return answer(self._house, line)
        except (AgreeError, Missing) as error:
            return "no " + error.called
