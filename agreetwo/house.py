"""A house of holders: moments that come of one another by deeds and merges, and branches that lead along them."""

from agreetwo.deeds import behind, put_in_order, verdict, web_of
from agreetwo.errors import BadName, Clash, NoMoment, NothingDone, TooMany, UnknownName
from agreetwo.headings import is_word
from agreetwo.tables import Table, is_within
from agreetwo.values import is_number
from agreetwo.webchanges import must_have_room

MOST_MOMENTS = 200
MOST_BRANCHES = 6


def are_alike(one, other):
    """Whether both are tables, over one heading."""
    return one is not None and other is not None and one.heading() == other.heading()


def come_together(was, mine, theirs):
    """Whether what both sides put and took can be added up; was, mine and theirs are tables, or None for no table."""
    return are_alike(mine, theirs) and (was is None or are_alike(was, mine))


def is_clash(was, mine, theirs):
    """Whether what two sides have made of one does not go together."""
    if theirs == was or mine == was:
        return False
    if come_together(was, mine, theirs):
        return was is not None and not is_within(was, mine + theirs)
    return mine != theirs


def merged(was, mine, theirs):
    """What two sides that do not clash make together: a table or None."""
    if theirs == was:
        return mine
    if mine == was:
        return theirs
    if come_together(was, mine, theirs):
        return mine + theirs if was is None else mine + theirs - was
    return mine


def merged_state(was, mine, theirs):
    """The state that two states make, which come of one; Clash(names), then TooMany()."""
    names = sorted(set(list(was) + list(mine) + list(theirs)))
    clashes = [name for name in names if is_clash(was.get(name), mine.get(name), theirs.get(name))]
    if clashes:
        raise Clash(tuple(clashes))
    tables = {name: merged(was.get(name), mine.get(name), theirs.get(name)) for name in names}
    made = put_in_order({name: tables[name] for name in names if tables[name] is not None})
    must_have_room(web_of(made))
    return made


def moments_ahead(entry):
    """The tuple of the moments of which one was made, by its entry in the log."""
    ahead = entry[0]
    return ahead if isinstance(ahead, tuple) else (ahead,)


class House:
    """Moments, each with a state, and branches, each with a trail of moments and a place in it."""

    def __init__(self):
        self._states = [{}]
        self._log = []
        self._names = ["main"]
        self._trails = {"main": (0,)}
        self._places = {"main": 0}
        self._branch = "main"

    def _known(self, name):
        """The name of a branch; UnknownName(name) for any other value."""
        if not is_word(name) or name not in self._trails:
            raise UnknownName(name)
        return name

    def _stand(self, name):
        """The number of the moment at which a branch stands."""
        return self._trails[name][self._places[name]]

    def _walk(self, steps):
        """The number of the moment so many steps on in the trail, at which the house then stands."""
        place = self._places[self._branch] + steps
        if not 0 <= place < len(self._trails[self._branch]):
            raise NothingDone()
        self._places[self._branch] = place
        return self.present()

    def _made(self, state, entry):
        """The number of a new moment, at which the house then stands; TooMany() if there are 200."""
        number, place = len(self._states), self._places[self._branch] + 1
        if number == MOST_MOMENTS:
            raise TooMany()
        self._states.append(state)
        self._log.append(entry)
        self._trails[self._branch] = self._trails[self._branch][:place] + (number,)
        self._places[self._branch] = place
        return number

    def _elders(self, number):
        """The dict from all elders of a moment to True."""
        found = {number: True}
        for k in range(number, 0, -1):
            if k in found:
                for ahead in moments_ahead(self._log[k - 1]):
                    found[ahead] = True
        return found

    def do(self, deed):
        """The number of the new moment that a deed, any value, makes of the present one."""
        return self._made(behind(self._states[self.present()], deed), (self.present(), deed))

    def undo(self):
        """One step back in the trail: the number of the moment there; NothingDone()."""
        return self._walk(-1)

    def redo(self):
        """One step on in the trail: the number of the moment there; NothingDone()."""
        return self._walk(1)

    def branch(self, name):
        """A new branch with the present trail up to the place; the house stays. BadName(name), then TooMany()."""
        if not is_word(name) or name in self._trails:
            raise BadName(name)
        if len(self._names) == MOST_BRANCHES:
            raise TooMany()
        place = self._places[self._branch]
        self._names.append(name)
        self._trails[name] = self._trails[self._branch][:place + 1]
        self._places[name] = place

    def go(self, name):
        """The number of the moment of another branch, to which the house goes; UnknownName(name)."""
        self._branch = self._known(name)
        return self.present()

    def present(self):
        """The number of the present moment."""
        return self._stand(self._branch)

    def state(self):
        """The state of the present moment."""
        return self.state_at(self.present())

    def state_at(self, number):
        """The state of a moment; NoMoment(number) for any value that is none's number."""
        if not is_number(number) or not 0 <= number < len(self._states):
            raise NoMoment(number)
        return put_in_order(self._states[number])

    def __len__(self):
        return len(self._states)

    def here(self):
        """The name of the present branch."""
        return self._branch

    def branches(self):
        """The list of the branches' names, in the order in which they came."""
        return list(self._names)

    def trail(self, name):
        """The list of the numbers of the moments in a branch's trail; UnknownName(name)."""
        return list(self._trails[self._known(name)])

    def place(self, name):
        """The place of a branch in its trail; UnknownName(name)."""
        return self._places[self._known(name)]

    def log(self):
        """The list of the pairs (number ahead, deed), or ((number, number), None), of all moments but the first."""
        return list(self._log)

    def merge(self, name):
        """The number of the moment that the present one and that of a branch make together."""
        number, other = self.present(), self._stand(self._known(name))
        mine, theirs = self._elders(number), self._elders(other)
        if other in mine:
            return number
        common = max([elder for elder in mine if elder in theirs])
        state = merged_state(self._states[common], self._states[number], self._states[other])
        return self._made(state, ((number, other), None))

    def twin(self):
        """An equal house that goes its own way."""
        other = House()
        other._states = list(self._states)
        other._log = list(self._log)
        other._names = list(self._names)
        other._trails = dict(self._trails)
        other._places = dict(self._places)
        other._branch = self._branch
        return other

    def __eq__(self, other):
        if not isinstance(other, House) or self._log != other._log or self._branch != other._branch:
            return False
        return self._names == other._names and self._trails == other._trails and self._places == other._places


def surplus_over(one, other):
    """The table of how often one has each row more than other, over one heading."""
    return Table(one.heading(), [(row, max(0, count - other.times(row))) for row, count in one.counts()])


def difference(one, other):
    """(gone, come) of two tables over one heading; else the two values themselves."""
    if are_alike(one, other):
        return surplus_over(one, other), surplus_over(other, one)
    return one, other


def came(house, one, other):
    """The dict from the names at which the states of two moments are unlike to what is gone and what has come."""
    first, second = house.state_at(one), house.state_at(other)
    names = [name for name in sorted(set(list(first) + list(second))) if first.get(name) != second.get(name)]
    return {name: difference(first.get(name), second.get(name)) for name in names}


def trial_of(house, deeds):
    """A twin of the house that has done the deeds; the error of the first one that cannot be done."""
    trial = house.twin()
    for deed in deeds:
        trial.do(deed)
    return trial


def would_tell(house, deeds):
    """The verdict of the state that the house would have behind the deeds; the house does not change."""
    return verdict(trial_of(house, deeds).state())


def tried(house, deeds):
    """The list of the numbers of the moments that the deeds make; if one cannot be done, none is."""
    trial_of(house, deeds)
    return [house.do(deed) for deed in deeds]
