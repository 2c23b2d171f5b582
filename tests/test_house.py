"""[10.4] to [10.6]: houses, merges, what came, and what is tried."""

import unittest

from agreetwo.deeds import behind, verdict
from agreetwo.errors import (AgreeError, BadDeed, BadHeading, BadName, BadNumber, Clash, Missing, NoMoment, NoRow,
                             NothingDone, TooFew, TooMany, UnknownColumn, UnknownName)
from agreetwo.house import House, came, tried, would_tell
from agreetwo.tables import Table
from tests.houseways import SlowHouse, drawn_deed, is_word, plain, slow_merged
from tests.support import AB, BC, any_values, drawn, ones, raised

HOLDERS = [("holder", "left", AB), ("holder", "right", BC)]
PUT = ("put", "left", (0, 1), 1)
BRANCHES = ["main", "side", "third", "four", "five", "six", "seven"]


def house_of(*deeds):
    house = House()
    tried(house, list(deeds))
    return house


def look(house):
    """All that a house tells of itself."""
    names = house.branches()
    return (len(house), house.here(), house.present(), names, [house.trail(name) for name in names],
            [house.place(name) for name in names], house.log(), [plain(house.state_at(k)) for k in range(len(house))])


def slow_look(slow):
    names = [one[0] for one in slow.branches]
    return (len(slow.moments), names[slow.at], slow.now(), names, [one[1] for one in slow.branches],
            [one[2] for one in slow.branches], [one[2] for one in slow.moments[1:]], [one[0] for one in slow.moments])


def full_house(moments=200):
    """A house of so many moments."""
    house = house_of(HOLDERS[0])
    while len(house) < moments:
        house.do(PUT)
    return house


def called(call, *args):
    """(None, what the call returns), or (the error's name, what it bears)."""
    try:
        return None, call(*args)
    except (AgreeError, Missing) as error:
        told = [worth for name, worth in vars(error).items() if name != "called"]
        return error.called, told[0] if told else None


class Walks(unittest.TestCase):
    def test_a_new_house(self):
        house = House()
        self.assertEqual(look(house), (1, "main", 0, ["main"], [[0]], [0], [], [{}]))
        self.assertEqual(house.state(), {})
        self.assertEqual(len(house), 1)
        raised(NothingDone, house.undo)
        raised(NothingDone, house.redo)

    def test_by_hand(self):
        house = House()
        self.assertEqual([house.do(deed) for deed in HOLDERS + [PUT]], [1, 2, 3])
        self.assertEqual(house.state()["left"].counts(), [((0, 1), 1)])
        self.assertEqual([house.undo(), house.undo(), house.redo()], [2, 1, 2])
        self.assertEqual((house.trail("main"), house.place("main"), house.present()), ([0, 1, 2, 3], 2, 2))
        self.assertEqual(house.state(), {"left": Table(AB, []), "right": Table(BC, [])})
        # What stands behind the place is left out by a new deed, but its moment stays.
        self.assertEqual(house.do(("leave", "right")), 4)
        self.assertEqual((house.trail("main"), house.place("main")), ([0, 1, 2, 4], 3))
        raised(NothingDone, house.redo)
        self.assertEqual(house.state_at(3)["left"].counts(), [((0, 1), 1)])
        self.assertEqual(house.log(), [(0, HOLDERS[0]), (1, HOLDERS[1]), (2, PUT), (2, ("leave", "right"))])

    def test_undo_and_redo_at_the_ends(self):
        house = house_of(*HOLDERS)
        raised(NothingDone, house.redo)
        self.assertEqual([house.undo(), house.undo()], [1, 0])
        raised(NothingDone, house.undo)
        self.assertEqual((house.present(), house.place("main")), (0, 0))
        self.assertEqual([house.redo(), house.redo()], [1, 2])
        raised(NothingDone, house.redo)
        self.assertEqual(house.present(), 2)

    def test_branches(self):
        house = house_of(*HOLDERS)
        house.undo()
        self.assertIsNone(house.branch("side"))
        self.assertEqual((house.here(), house.branches()), ("main", ["main", "side"]))
        self.assertEqual((house.trail("side"), house.place("side")), ([0, 1], 1))
        self.assertEqual(house.trail("main"), [0, 1, 2])
        self.assertEqual(house.go("side"), 1)
        self.assertEqual(house.do(PUT), 3)
        self.assertEqual((house.trail("side"), house.trail("main")), ([0, 1, 3], [0, 1, 2]))
        self.assertEqual([house.go("main"), house.redo(), house.go("side"), house.go("side")], [1, 2, 3, 3])

    def test_branch_errors(self):
        house = House()
        for name in ["main", "", "ninechars", "A", "a b", "a1", 0, None, True, ("side",), ["side"], {}] + any_values():
            if name not in ("a", "ab"):
                error = raised(BadName, house.branch, name)
                self.assertEqual(error.name, name)
                self.assertIs(error.name.__class__, name.__class__)
        for name in BRANCHES[1:6]:
            house.branch(name)
        raised(TooMany, house.branch, "seven")
        self.assertEqual(raised(BadName, house.branch, "six").name, "six")
        self.assertEqual(raised(BadName, house.branch, None).name, None)
        self.assertEqual(house.branches(), BRANCHES[:6])

    def test_unknown_names(self):
        house = house_of(*HOLDERS)
        before = look(house)
        for name in ["side", "", "Main", "main ", 0, None, True, ("main",), ["main"], {"main": 1}] + any_values():
            for call in (house.go, house.trail, house.place, house.merge):
                error = raised(UnknownName, call, name)
                self.assertEqual(error.name, name)
                self.assertIs(error.name.__class__, name.__class__)
        self.assertEqual(look(house), before)

    def test_no_moment(self):
        house = house_of(*HOLDERS)
        for number in [3, -1, True, False, "0", None, (0,), [0]] + [k for k in any_values() if k not in (0, 1, 2)]:
            for call in (house.state_at, lambda number: came(house, number, 99), lambda number: came(house, 0, number)):
                error = raised(NoMoment, call, number)
                self.assertEqual(error.number, number)
                self.assertIs(error.number.__class__, number.__class__)
        self.assertEqual(raised(NoMoment, came, house, 3, 4).number, 3)

    def test_two_hundred_moments(self):
        house = full_house(199)
        self.assertEqual(house.do(PUT), 199)
        self.assertEqual(len(house), 200)
        before = look(house)
        raised(TooMany, house.do, PUT)
        # What behind raises comes first.
        raised(BadDeed, house.do, None)
        raised(UnknownName, house.do, ("leave", "far"))
        raised(TooMany, would_tell, house, [PUT])
        raised(TooMany, tried, house, [PUT])
        raised(UnknownName, tried, house, [("leave", "far"), PUT])
        house.undo()
        raised(TooMany, house.do, PUT)
        house.redo()
        self.assertEqual(look(house), before)
        self.assertEqual(would_tell(house, [])[0], "whole")
        self.assertEqual(tried(house, []), [])

    def test_an_error_changes_nothing(self):
        house = house_of(*HOLDERS, PUT)
        house.branch("side")
        house.undo()
        before, twin = look(house), house.twin()
        for deed, kind in [(None, BadDeed), (["leave", "left"], BadDeed), (("holder", "left", AB), BadName),
                           (("holder", "far", ["a"]), BadHeading), (("leave", "far"), UnknownName),
                           (("put", "left", (0,), 1), NoRow), (("put", "left", (0, 1), True), BadNumber),
                           (("take", "left", (0, 1), 1), TooFew), (("rename", "z", "y"), UnknownColumn),
                           (("rename", "a", "b"), BadName), (("fit", "left", "far"), UnknownName)]:
            raised(kind, house.do, deed)
            raised(kind, would_tell, house, [deed])
            raised(kind, tried, house, [("put", "right", (0, 0), 1), deed, PUT])
        self.assertEqual(look(house), before)
        self.assertEqual(house, twin)

    def test_what_is_returned_belongs_to_the_caller(self):
        house = house_of(*HOLDERS, PUT)
        house.branch("side")
        before = look(house)
        for told in (house.state(), house.state_at(0), house.state_at(2), house.branches(), house.trail("main"),
                     house.trail("side"), house.log(), came(house, 0, 3), tried(house, [])):
            told.clear()
        house.state()["far"] = LEFT
        house.branches().append("z")
        house.trail("main").append(9)
        self.assertEqual(look(house), before)

    def test_what_is_passed_is_not_kept(self):
        deeds = [HOLDERS[0], PUT]
        house = House()
        tried(house, deeds)
        deeds.clear()
        self.assertEqual(house.log(), [(0, HOLDERS[0]), (1, PUT)])
        self.assertEqual(tried(house, (PUT, PUT)), [3, 4])
        self.assertEqual(would_tell(house, (("leave", "left"),)), ("empty",))


LEFT = ones(AB, (0, 1))


class Twins(unittest.TestCase):
    def test_a_twin_goes_its_own_way(self):
        house = house_of(*HOLDERS)
        house.branch("side")
        twin = house.twin()
        self.assertEqual(house, twin)
        self.assertIsInstance(twin, House)
        before = look(house)
        twin.do(PUT)
        twin.branch("far")
        twin.go("side")
        twin.undo()
        self.assertEqual(look(house), before)
        self.assertNotEqual(house, twin)
        again, after = house.twin(), look(twin)
        house.do(PUT)
        house.go("side")
        house.branch("four")
        self.assertEqual((look(twin), look(again)), (after, before))

    def test_equal(self):
        self.assertTrue(House() == House())
        self.assertFalse(House() != House())
        house, other = house_of(*HOLDERS), house_of(*HOLDERS)
        self.assertEqual(house, other)
        for value in [None, 0, True, "main", (), [], {}, LEFT, look(house)] + any_values():
            self.assertFalse(house == value)
            self.assertTrue(house != value)
            self.assertFalse(value == house)

    def test_each_thing_that_makes_them_unlike(self):
        house = house_of(*HOLDERS, PUT)
        house.branch("side")
        changes = [lambda one: one.undo(), lambda one: one.go("side"), lambda one: one.branch("far"),
                   lambda one: one.do(PUT)]
        for change in changes:
            other = house.twin()
            change(other)
            self.assertNotEqual(house, other)
            change(house_twin := house.twin())
            self.assertEqual(other, house_twin)
        # The logs are alike, but not the deeds that the trail has; and the place in another branch.
        one, other = house.twin(), house.twin()
        one.undo()
        one.do(PUT)
        other.do(PUT)
        self.assertNotEqual(one, other)
        one, other = house.twin(), house.twin()
        one.go("side")
        one.undo()
        one.go("main")
        self.assertNotEqual(one, other)
        one.go("side")
        one.redo()
        one.go("main")
        self.assertEqual(one, other)

    def test_the_order_of_the_branches(self):
        one, other = House(), House()
        for name in ("side", "far"):
            one.branch(name)
        for name in ("far", "side"):
            other.branch(name)
        self.assertNotEqual(one, other)

    def test_trails_alone(self):
        houses = []
        for first, second in (("main", "side"), ("side", "main")):
            house = house_of(*HOLDERS)
            house.branch("side")
            house.go(first)
            house.do(PUT)
            house.go(second)
            house.do(PUT)
            house.go("main")
            houses.append(house)
        one, other = houses
        self.assertEqual((one.log(), one.place("main"), one.place("side")),
                         (other.log(), other.place("main"), other.place("side")))
        self.assertNotEqual(one.trail("main"), other.trail("main"))
        self.assertNotEqual(one, other)
        # What stands behind the place counts, too.
        for house in houses:
            house.undo()
            house.go("side")
            house.undo()
            house.go("main")
        self.assertEqual((one.present(), one.state()), (other.present(), other.state()))
        self.assertNotEqual(one, other)

    def test_logs_and_trails(self):
        one, other = house_of(*HOLDERS), house_of(*HOLDERS)
        one.undo()
        one.do(("leave", "left"))
        other.do(("leave", "left"))
        self.assertNotEqual(one, other)
        one, other = house_of(*HOLDERS), house_of(*HOLDERS[::-1])
        self.assertEqual(one.state(), other.state())
        self.assertNotEqual(one, other)


class Merges(unittest.TestCase):
    def two_ways(self, common, mine, theirs):
        """Two houses: main has done mine and side theirs, from common on; one merges side, the other one main."""
        house = house_of(*common)
        house.branch("side")
        tried(house, mine)
        house.go("side")
        tried(house, theirs)
        other = house.twin()
        house.go("main")
        return house, other

    def both(self, common, mine, theirs):
        """What both merges make or raise; they are alike, and errors change nothing."""
        house, other = self.two_ways(common, mine, theirs)
        before = look(house)
        told = called(house.merge, "side")
        if told[0] is None:
            self.assertEqual(plain(other.state_at(other.merge("main"))), plain(house.state()))
            self.assertEqual(house.log()[-1], ((before[2], other.log()[-1][0][0]), None))
            return house.state()
        self.assertEqual(look(house), before)
        self.assertEqual(called(other.merge, "main"), told)
        return told

    def test_what_both_put_and_took_comes_together(self):
        start = HOLDERS + [("put", "left", (0, 1), 3)]
        state = self.both(start, [("put", "left", (7, 1), 1)], [("take", "left", (0, 1), 1)])
        self.assertEqual(state["left"].counts(), [((0, 1), 2), ((7, 1), 1)])
        # Also where it is alike.
        state = self.both(start, [("take", "left", (0, 1), 1), PUT, PUT], [PUT])
        self.assertEqual(state["left"].counts(), [((0, 1), 5)])
        state = self.both(start, [("take", "left", (0, 1), 1)], [("take", "left", (0, 1), 2)])
        self.assertEqual(state["left"], Table(AB, []))

    def test_clashes(self):
        start = HOLDERS + [("put", "left", (0, 1), 3)]
        told = self.both(start, [("take", "left", (0, 1), 2)], [("take", "left", (0, 1), 2)])
        self.assertEqual(told, ("Clash", ("left",)))
        told = self.both(start, [("leave", "left")], [PUT])
        self.assertEqual(told, ("Clash", ("left",)))
        told = self.both(start, [("rename", "b", "z")], [PUT])
        self.assertEqual(told, ("Clash", ("left",)))
        told = self.both(start, [("rename", "b", "z")], [("put", "right", (0, 0), 1), PUT])
        self.assertEqual(told, ("Clash", ("left", "right")))
        told = self.both(start, [("rename", "b", "z")], [("rename", "b", "y")])
        self.assertEqual(told, ("Clash", ("left", "right")))
        told = self.both([], [("holder", "far", ("a",))], [("holder", "far", ("b",))])
        self.assertEqual(told, ("Clash", ("far",)))
        told = self.both([], [("holder", "z", ("a",)), ("holder", "a", ("a",))],
                         [("holder", "z", ("b",)), ("holder", "a", ())])
        self.assertEqual(told, ("Clash", ("a", "z")))

    def test_names_that_both_made(self):
        state = self.both([], HOLDERS[:1] + [PUT], HOLDERS[:1] + [PUT, ("put", "left", (5, 5), 1)])
        self.assertEqual(state, {"left": Table(AB, [((0, 1), 2), ((5, 5), 1)])})
        state = self.both([], HOLDERS[:1], HOLDERS[1:])
        self.assertEqual(list(state), ["left", "right"])
        state = self.both([], HOLDERS[:1], HOLDERS[:1])
        self.assertEqual(state, {"left": Table(AB, [])})

    def test_what_one_side_alone_has_changed(self):
        start = HOLDERS + [PUT]
        state = self.both(start, [("leave", "left")], [("put", "right", (0, 0), 1)])
        self.assertEqual(state, {"right": ones(BC, (0, 0))})
        state = self.both(start, [("rename", "b", "z")], [("holder", "far", ())])
        self.assertEqual([table.heading() for table in state.values()], [(), ("a", "z"), ("c", "z")])
        state = self.both(start, [("leave", "left")], [("leave", "left"), ("leave", "right")])
        self.assertEqual(state, {})
        # Made anew over another heading by both, alike: the common heading is another one, so nothing is added up.
        anew = [("leave", "left"), ("holder", "left", ("c",)), ("put", "left", (3,), 2)]
        state = self.both(start, anew, anew)
        self.assertEqual(state["left"].counts(), [((3,), 2)])
        told = self.both(start, anew, anew + [("put", "left", (3,), 1)])
        self.assertEqual(told, ("Clash", ("left",)))

    def test_too_many(self):
        def holders(names, heading=()):
            return [("holder", name, heading) for name in names]
        told = self.both(holders("abc"), holders("def"), holders("gh"))
        self.assertEqual(told, ("TooMany", None))
        self.assertEqual(len(self.both(holders("abc"), holders("de"), holders("fg"))), 7)
        told = self.both([], holders("a", tuple("abcde")), holders("b", tuple("efghi")))
        self.assertEqual(told, ("TooMany", None))
        self.assertEqual(len(self.both([], holders("a", tuple("abcde")), holders("b", tuple("efgh")))), 2)
        # A clash comes ahead of it.
        told = self.both([], holders("az", tuple("abcde")), holders("bz", tuple("efghi")))
        self.assertEqual(told, ("Clash", ("z",)))

    def test_an_elder(self):
        house = house_of(*HOLDERS)
        house.branch("side")
        before = look(house)
        self.assertEqual([house.merge("main"), house.merge("side")], [2, 2])
        self.assertEqual(look(house), before)
        house.do(PUT)
        before = look(house)
        self.assertEqual(house.merge("side"), 3)
        self.assertEqual(look(house), before)
        # The present one is an elder of the other one: a new moment is made, present first.
        house.go("side")
        self.assertEqual(house.merge("main"), 4)
        self.assertEqual((house.log()[-1], house.trail("side")), (((2, 3), None), [0, 1, 2, 4]))
        self.assertEqual(house.state(), house.state_at(3))
        # Now both come of both.
        self.assertEqual(house.merge("main"), 4)
        house.go("main")
        self.assertEqual(house.merge("side"), 5)
        self.assertEqual(house.log()[-1], ((3, 4), None))

    def test_a_new_moment_also_where_the_state_stays(self):
        house = house_of(*HOLDERS)
        house.branch("side")
        house.do(PUT)
        house.do(("take",) + PUT[1:])
        house.go("side")
        self.assertEqual(house.merge("main"), 5)
        self.assertEqual(house.state(), house.state_at(2))

    def test_a_merge_is_undone_and_cuts_the_trail(self):
        house, _ = self.two_ways(HOLDERS, [PUT, PUT], [("put", "right", (0, 0), 1)])
        house.undo()
        self.assertEqual(house.merge("side"), 6)
        self.assertEqual(house.trail("main"), [0, 1, 2, 3, 6])
        self.assertEqual(house.log()[-1], ((3, 5), None))
        self.assertEqual([house.undo(), house.redo()], [3, 6])
        raised(NothingDone, house.redo)

    def test_the_common_moment_is_the_greatest_elder_of_both(self):
        house = house_of(*HOLDERS)
        house.branch("side")
        house.do(PUT)
        house.go("side")
        house.do(("put", "left", (0, 1), 10))
        self.assertEqual(house.merge("main"), 5)
        self.assertEqual(house.state()["left"].counts(), [((0, 1), 11)])
        house.go("main")
        house.do(("put", "left", (0, 1), 100))
        house.go("side")
        # Both have moment 3 as an elder now: it is not added a second time.
        self.assertEqual(house.merge("main"), 7)
        self.assertEqual(house.state()["left"].counts(), [((0, 1), 111)])
        house.go("main")
        house.merge("side")
        self.assertEqual(house.state()["left"].counts(), [((0, 1), 111)])

    def test_at_two_hundred_moments(self):
        house = house_of(*HOLDERS)
        house.branch("side")
        house.branch("third")
        house.do(PUT)
        house.go("third")
        house.do(("put", "right", (0, 0), 1))
        house.go("main")
        while len(house) < 200:
            house.do(PUT)
        before = look(house)
        raised(TooMany, house.merge, "third")
        self.assertEqual(house.merge("side"), 199)
        self.assertEqual(house.merge("main"), 199)
        self.assertEqual(raised(UnknownName, house.merge, "far").name, "far")
        self.assertEqual(look(house), before)
        house.go("third")
        raised(TooMany, house.merge, "main")
        self.assertEqual(house.merge("side"), 4)

    def test_drawn_states(self):
        rng = drawn(1011)
        told = {}
        for _ in range(300):
            start = House()
            self.steps(rng, start, rng.choice([0, 3, 6]))
            common = [deed for _, deed in start.log()]
            sides = []
            for _ in range(2):
                house = start.twin()
                self.steps(rng, house, rng.randint(1, 4))
                sides.append([deed for _, deed in house.log()[len(common):]])
            if not all(sides):
                continue
            made = self.both(common, *sides)
            one, other = house_of(*common, *sides[0]), house_of(*common, *sides[1])
            key, expected = slow_merged(plain(start.state()), plain(one.state()), plain(other.state()))
            if key:
                self.assertEqual(made, ("Clash", expected))
            elif made != ("TooMany", None):
                self.assertEqual(plain(made), expected)
            told[key] = told.get(key, 0) + 1
        self.assertGreater(min(told.values()), 20)

    def steps(self, rng, house, many):
        for _ in range(many):
            called(house.do, drawn_deed(rng, house.state()))


class Drawn(unittest.TestCase):
    def act(self, rng, house):
        """A drawn call: its name and its arguments."""
        word = rng.choice(["do"] * 14 + ["undo"] * 3 + ["redo"] * 2 + ["go"] * 4 + ["branch"] * 2 + ["merge"] * 3)
        if word == "do":
            return word, drawn_deed(rng, house.state())
        if word in ("undo", "redo"):
            return (word,)
        names = house.branches() * 8 + BRANCHES if word != "branch" else BRANCHES + ["Bad", ""]
        return word, rng.choice(names)

    def test_against_the_slow_house(self):
        rng = drawn(1012)
        counts = {}
        for _ in range(50):
            house, slow = House(), SlowHouse()
            for _ in range(60):
                word, *args = self.act(rng, house)
                before, twin = look(house), house.twin()
                told = called(getattr(house, word), *args)
                self.assertEqual(told, getattr(slow, word)(*args), (word, args))
                self.assertEqual(look(house), slow_look(slow))
                self.assertEqual(look(twin), before)
                # A moment may come without any other change, as a branch may; else equal houses look alike.
                self.assertEqual(house == twin, look(house) == before)
                if told[0] is not None:
                    self.assertEqual(look(house), before)
                counts[word, told[0]] = counts.get((word, told[0]), 0) + 1
        for key in [("do", None), ("undo", None), ("redo", None), ("go", None), ("branch", None), ("merge", None),
                    ("merge", "Clash"), ("undo", "NothingDone"), ("redo", "NothingDone"), ("go", "UnknownName"),
                    ("branch", "BadName"), ("merge", "UnknownName")]:
            self.assertGreater(counts.get(key, 0), 5, counts)

    def test_each_state_made_anew_from_the_log(self):
        rng = drawn(1013)
        merges = 0
        for _ in range(50):
            house = House()
            for _ in range(60):
                word, *args = self.act(rng, house)
                called(getattr(house, word), *args)
            states, elders = [{}], [{0}]
            for ahead, deed in house.log():
                if deed is not None:
                    states.append(behind(states[ahead], deed))
                    elders.append(elders[ahead] | {len(elders)})
                else:
                    own, other = ahead
                    was = states[max(elders[own] & elders[other])]
                    told, made = slow_merged(plain(was), plain(states[own]), plain(states[other]))
                    self.assertIsNone(told)
                    states.append({name: Table(heading, list(counts.items()))
                                   for name, (heading, counts) in sorted(made.items())})
                    elders.append(elders[own] | elders[other] | {len(elders)})
                    merges += 1
            for number, state in enumerate(states):
                self.assertEqual(house.state_at(number), state)
                self.assertEqual(list(house.state_at(number)), sorted(state))
                self.assertTrue(all(map(is_word, state)))
        self.assertGreater(merges, 20)

    def test_tried_and_would_tell(self):
        rng = drawn(1014)
        told = {True: 0, False: 0}
        for _ in range(150):
            house = House()
            for _ in range(rng.choice([0, 4, 10])):
                called(house.do, drawn_deed(rng, house.state()))
            if rng.random() < 0.3:
                called(house.undo)
            trial = house.twin()
            deeds, wrong = [], None
            for _ in range(rng.randint(0, 5)):
                deed = drawn_deed(rng, trial.state())
                deeds.append(deed)
                name, bears = called(trial.do, deed)
                if name is not None:
                    wrong = (name, bears)
                    break
            before = look(house)
            if wrong is not None:
                deeds.append(drawn_deed(rng, trial.state()))
                for call in (would_tell, tried):
                    self.assertEqual(called(call, house, deeds), wrong)
                    self.assertEqual(look(house), before)
            else:
                self.assertEqual(would_tell(house, deeds), verdict(trial.state()))
                self.assertEqual(look(house), before)
                numbers = tried(house, deeds)
                self.assertEqual(numbers, list(range(before[0], before[0] + len(deeds))))
                self.assertEqual(house, trial)
            told[wrong is None] += 1
        self.assertGreater(min(told.values()), 30)

    def test_deeds_of_any_values(self):
        house = house_of(*HOLDERS)
        before = look(house)
        for value in any_values():
            raised(BadDeed, tried, house, [PUT, value])
            raised(BadDeed, would_tell, house, [PUT, value])
            raised(BadDeed, house.do, value)
        self.assertEqual(look(house), before)


class Came(unittest.TestCase):
    def test_by_hand(self):
        house = house_of(*HOLDERS, ("put", "left", (0, 1), 3), ("put", "left", (7, 1), 1), ("take", "left", (0, 1), 1))
        told = came(house, 3, 5)
        self.assertEqual(told, {"left": (ones(AB, (0, 1)), ones(AB, (7, 1)))})
        self.assertIsInstance(told["left"], tuple)
        self.assertEqual(came(house, 5, 3), {"left": (ones(AB, (7, 1)), ones(AB, (0, 1)))})
        self.assertEqual(came(house, 4, 4), {})
        self.assertEqual(came(house, 0, 2), {"left": (None, Table(AB, [])), "right": (None, Table(BC, []))})
        self.assertEqual(list(came(house, 0, 2)), ["left", "right"])
        self.assertEqual(came(house, 2, 1), {"right": (Table(BC, []), None)})

    def test_another_heading(self):
        house = house_of(*HOLDERS, PUT, ("rename", "a", "z"))
        self.assertEqual(came(house, 3, 4), {"left": (ones(AB, (0, 1)), Table(("b", "z"), [((1, 0), 1)]))})

    def test_drawn(self):
        rng = drawn(1015)
        many = 0
        for _ in range(25):
            house = House()
            for _ in range(25):
                called(house.do, drawn_deed(rng, house.state()))
            for _ in range(25):
                one, other = rng.randrange(len(house)), rng.randrange(len(house))
                first, second = house.state_at(one), house.state_at(other)
                told = came(house, one, other)
                names = sorted(set(first) | set(second))
                self.assertEqual(list(told), [name for name in names if first.get(name) != second.get(name)])
                for name, (gone, come) in told.items():
                    mine, theirs = first.get(name), second.get(name)
                    if mine is not None and theirs is not None and mine.heading() == theirs.heading():
                        self.assertEqual(mine + come, theirs + gone)
                        self.assertFalse(set(gone.rows()) & set(come.rows()))
                        many += 1
                    else:
                        self.assertEqual((gone, come), (mine, theirs))
        self.assertGreater(many, 100)


if __name__ == "__main__":
    unittest.main()
