"""[15] and righting.py of the interface."""

import unittest
from unittest import mock

from hearsayways import righting
from hearsayways.errors import BadNet, BadState, TooLarge
from hearsayways.nets import Net
from hearsayways.righting import Lost, Righted, can_right, fewest_tells, is_right, right
from hearsayways.tables import all_states, first_state, woven

from tests import model
from tests.samples import LARGE, LINE, LONG, NO_DEEDS, NO_NETS, ODD, PAIR, RING, RING_WEAVING, TOO_LARGE, varied_nets

QUIET, POISON = LINE.but("split", "quiet"), LINE.but("split", "poison")
FIRST = first_state(LINE)
ROUND = (((3, 2, 0), (2, 1, 0)), (False, True))
LATE = (((4, None, 0), (2, 1, 0)), (False, True))
CUT = (((4, None, 0), (4, None, 0)), (False, True))
KNOWN = [("tell", 0, 1), ("tell", 1, 2)]
# No net has states from which more come about by tells alone than from this one, which are 577.
WIDE = Net(4, ((0, 1), (0, 2), (1, 2), (1, 3), (2, 3)), endless=5, hold=2)
WIDEST = (((1, 2, 0), (1, 1, 0), (1, 1, 0)), (True,) * 5)


def tells(net, state):
    """What leads from a state by its tells."""
    made = model.Model(net, state)
    return {deed: model.behind(net, state, deed) for deed in made.deeds() if deed[0] == "tell"}


def are_true(net, state):
    """Whether a state is right, told in the words of the document."""
    made = model.Model(net, state)
    return all(made.distance[host] == made.true(host) for host in made.distance)


def walked(net, state):
    """The fewest tells by which a state is righted, None if it cannot be, and all states that tells lead to."""
    level, found, many, fewest = {state}, set(), 0, None
    while level:
        if fewest is None and any(are_true(net, one) for one in level):
            fewest = many
        found |= level
        level = {later for one in level for later in tells(net, one).values()} - found
        many += 1
    return fewest, found


def rights(net, state, told):
    """Whether these tells right the state, told in the words of the document."""
    for deed in told:
        if deed[0] != "tell" or deed not in model.Model(net, state).deeds():
            return False
        state = model.behind(net, state, deed)
    return are_true(net, state)


def are_levels(net, state, many, levels):
    """Whether these are as in a Righted with so many tells, told in the words of the document."""
    if levels.get(state) != 0 or min(levels.values()) < 0:
        return False
    for one, level in levels.items():
        if level < many:
            if are_true(net, one) or not all(levels.get(later, many + 9) <= level + 1
                                             for later in tells(net, one).values()):
                return False
    return True


def is_lost(net, state, states):
    """Whether these states are as in a Lost, told in the words of the document."""
    held = set(states)
    return (state in held and not any(are_true(net, one) for one in held)
            and all(later in held for one in held for later in tells(net, one).values()))


class Examples(unittest.TestCase):
    def test_example(self):
        line = Net(3, ((0, 1), (1, 2)), weak=(0,))
        round_trip, late = (((3, 2, 0), (2, 1, 0)), (False, True)), (((4, None, 0), (2, 1, 0)), (False, True))
        self.assertEqual(
            [[fewest_tells(line, state) for state in (first_state(line), round_trip, late)],
             can_right(line.but("split", "quiet"), round_trip),
             is_right(line, (((4, None, 0), (4, None, 0)), (False, True)))],
            [[2, 2, 1], False, True])

    def test_all_of_a_small_net(self):
        near = (((1, 0, 0), (4, None, 0)), (True, True))
        known = (((1, 0, 0), (2, 1, 0)), (True, True))
        self.assertEqual(right(LINE, FIRST), Righted(KNOWN, {FIRST: 0, near: 1, known: 2}))
        self.assertEqual(right(LINE, known), Righted([], {known: 0}))
        self.assertEqual(right(QUIET, ROUND), Lost([ROUND]))

    def test_is_right(self):
        for net, state, told in (
                (LINE, FIRST, False), (LINE, CUT, True), (LINE, LATE, False), (LINE, ROUND, False),
                (LINE, (((1, 0, 0), (2, 1, 0)), (True, True)), True),
                (LINE, (((1, 0, 0), (3, 1, 0)), (True, True)), False),
                (LINE.but("endless", 2), (((1, 0, 0), (2, None, 0)), (True, True)), True),
                (LINE.but("hold", 2), (((4, None, 2), (4, None, 1)), (False, True)), True),
                (Net(3, ((1, 2),)), (((4, None, 0), (4, None, 0)), (True,)), True)):
            self.assertIs(is_right(net, state), told)

    def test_the_way_is_no_matter(self):
        # Host 3 may go by host 1 or by host 2; and the distances of a ring can be the true ones.
        net = Net(4, ((0, 1), (0, 2), (1, 3), (2, 3)))
        for way in (1, 2):
            self.assertIs(is_right(net, (((1, 0, 0), (1, 0, 0), (2, way, 0)), (True,) * 4)), True)
        self.assertIs(is_right(RING, (((1, 2, 0), (1, 1, 0)), (True, True, True))), True)
        self.assertEqual(right(RING, (((1, 2, 0), (1, 1, 0)), (True, True, True))).tells, [])

    def test_two_hosts_and_holds(self):
        for hold in (0, 1, 2):
            net = PAIR.but("hold", hold)
            for left in range(hold + 1):
                state = (((4, None, left),), (True,))
                self.assertEqual(fewest_tells(net, state), left + 1)
                self.assertEqual(right(net, state).tells, [("tell", 0, 1)] * (left + 1))
                self.assertEqual(fewest_tells(net, (((4, None, left),), (False,))), 0)
        self.assertEqual(fewest_tells(PAIR, (((3, 0, 0),), (True,))), 1)

    def test_counting_up(self):
        # Both count up to the endless distance, one after the other.
        for endless, many in ((4, 2), (5, 3)):
            state = (((3, 2, 0), (2, 1, 0)), (False, True))
            self.assertEqual(fewest_tells(LINE.but("endless", endless), state), many)
        loud = LINE.but("endless", 5).but("cry", "loud")
        self.assertEqual(fewest_tells(loud, (((3, 2, 0), (4, 1, 0)), (False, True))), 1)

    def test_states_that_tells_cannot_right(self):
        self.assertIsNone(fewest_tells(QUIET, ROUND))
        self.assertIs(can_right(POISON, ROUND), True)
        # What nobody tells stays wrong.
        apart = Net(4, ((0, 1), (2, 3)), split="quiet")
        state = (((1, 0, 0), (1, 3, 0), (2, 2, 0)), (True, True))
        self.assertIsInstance(right(apart, state), Lost)
        self.assertIs(can_right(apart.but("split", "plain"), state), True)

    def test_ties_stay_as_they_are(self):
        for one in right(LINE, LATE).levels:
            self.assertEqual(one[1], (False, True))
        self.assertTrue(all(deed[0] == "tell" for deed in right(LARGE, first_state(LARGE)).tells))


class AgainstAWalk(unittest.TestCase):
    def check(self, net, state):
        fewest, states = walked(net, state)
        self.assertLessEqual(len(states), 800)
        found = right(net, state)
        self.assertIs(is_right(net, state), are_true(net, state))
        self.assertIs(can_right(net, state), fewest is not None)
        self.assertEqual(fewest_tells(net, state), fewest)
        self.assertIs(found.shows(net, state), True)
        if fewest is None:
            self.assertIsInstance(found, Lost)
            self.assertEqual(set(found.states), states)
            self.assertTrue(is_lost(net, state, found.states))
            return
        self.assertIsInstance(found, Righted)
        self.assertEqual(len(found.tells), fewest)
        self.assertTrue(rights(net, state, found.tells))
        self.assertTrue(are_levels(net, state, fewest, found.levels))

    def test_states_that_come_about(self):
        for at, net in enumerate(varied_nets()):
            states = sorted(model.come_about(net), key=str)
            for state in states[at % 40::40]:
                with self.subTest(net=vars(net), state=state):
                    self.check(net, state)

    def test_states_that_do_not_come_about(self):
        for split in ("plain", "poison", "quiet"):
            for cry in ("loud", "still"):
                net = Net(3, ((0, 1), (0, 2), (1, 2)), weak=(0, 2), endless=3, split=split, cry=cry, hold=1)
                for at, state in enumerate(model.thinkable(net)):
                    if at % 7 == 0 and model.is_state(net, state):
                        self.check(net, state)

    def test_more_than_800_states_come_about_by_other_deeds(self):
        for state in sorted(model.come_about(TOO_LARGE), key=str)[::60]:
            self.check(TOO_LARGE, state)
        self.check(LARGE, first_state(LARGE))

    def test_as_many_states_as_there_can_be(self):
        fewest, states = walked(WIDE, WIDEST)
        self.assertEqual(len(states), 577)
        self.check(WIDE, WIDEST)

    def test_more_states_than_are_looked_at(self):
        # No net has so many that the limit itself could be tried, so that a lower one is tried in its place.
        self.assertEqual(righting.MOST_STATES, 800)
        for limit, refused in ((577, False), (576, True), (1, True)):
            with mock.patch.object(righting, "MOST_STATES", limit):
                for call in (right, can_right, fewest_tells):
                    if refused:
                        with self.assertRaises(TooLarge):
                            call(WIDE, WIDEST)
                    else:
                        call(WIDE, WIDEST)
                self.assertIs(is_right(WIDE, WIDEST), False)
                self.assertIs(Righted([], {}).shows(WIDE, WIDEST), False)
                self.assertIs(Lost([]).shows(WIDE, WIDEST), False)


class RightedShows(unittest.TestCase):
    def setUp(self):
        self.found = right(LINE, FIRST)

    def shows(self, told=None, levels=None, net=LINE, state=FIRST):
        return Righted(self.found.tells if told is None else told,
                       self.found.levels if levels is None else levels).shows(net, state)

    def test_as_it_is_told_and_in_another_order(self):
        self.assertIs(self.shows(), True)
        self.assertIs(self.shows(levels=dict(reversed(list(self.found.levels.items())))), True)

    def test_tells_that_are_too_many(self):
        longer = [KNOWN[0], ("tell", 0, 1), KNOWN[1]]
        self.assertTrue(rights(LINE, FIRST, longer))
        self.assertIs(self.shows(told=longer), False)
        self.assertIs(self.shows(told=[*KNOWN, ("tell", 0, 1)]), False)
        for levels in ({state: 0 for state in self.found.levels}, {state: 3 for state in self.found.levels},
                       {**self.found.levels, woven(LINE, KNOWN)[-1]: 3}):
            self.assertIs(self.shows(told=longer, levels=levels), False)
        done = woven(LINE, KNOWN)[-1]
        self.assertIs(self.shows(told=[("tell", 0, 1)], state=done, levels={done: 0}), False)
        self.assertIs(self.shows(told=[], state=done, levels={done: 0}), True)

    def test_tells_that_do_not_right_the_state(self):
        for told in ([], KNOWN[:1], [("tell", 1, 2), ("tell", 0, 1)], [("tell", 1, 2), ("tell", 1, 2)]):
            self.assertIs(self.shows(told=told), False)
            self.assertIs(self.shows(told=told, levels={FIRST: 0}), False)

    def test_tells_that_cannot_be_done(self):
        for deed in NO_DEEDS:
            with self.subTest(deed=deed):
                for told in ([deed, *KNOWN], [KNOWN[0], deed], [*KNOWN, deed], [deed]):
                    self.assertIs(self.shows(told=told), False)
        self.assertIs(self.shows(told=[("tell", False, 1), ("tell", 1, 2)]), False)
        self.assertIs(self.shows(told=[("tell", 0, 1), ("tell", True, 2)]), False)

    def test_deeds_that_are_no_tells(self):
        # Here a fall alone would make the distance right, and a coming, too.
        self.assertTrue(is_right(PAIR, woven(PAIR, [("fall", 0)])[-1]))
        first = first_state(PAIR)
        near = woven(PAIR, [("tell", 0, 1)])[-1]
        self.assertIs(Righted([("tell", 0, 1)], {first: 0, near: 1}).shows(PAIR, first), True)
        for levels in ({first: 0}, {state: 1 for state in all_states(PAIR)} | {first: 0}):
            self.assertIs(Righted([("fall", 0)], levels).shows(PAIR, first), False)
        fallen = (((4, None, 0), (2, 1, 0)), (False, True))
        for told in ([("come", 0), ("tell", 0, 1)], [("come", 0)], [("tell", 1, 2), ("come", 0), *KNOWN]):
            self.assertIs(self.shows(told=told, state=fallen, levels={fallen: 0}), False)

    def test_a_level_too_great(self):
        near = woven(LINE, KNOWN)[0]
        self.assertIs(self.shows(levels={**self.found.levels, near: 2}), False)
        self.assertIs(self.shows(levels={**self.found.levels, FIRST: 1}), False)
        self.assertIs(self.shows(levels={**self.found.levels, woven(LINE, KNOWN)[1]: 3}), False)

    def test_a_level_too_low(self):
        near, done = woven(LINE, KNOWN)
        self.assertIs(self.shows(levels={**self.found.levels, done: 1}), False)
        self.assertIs(self.shows(levels={**self.found.levels, done: 0}), False)
        self.assertIs(self.shows(levels={**self.found.levels, near: 0}), False)
        self.assertIs(self.shows(levels={**self.found.levels, near: -1}), False)
        self.assertIs(self.shows(levels={**self.found.levels, done: -1}), False)
        self.assertIs(self.shows(levels={state: 0 for state in self.found.levels}), False)

    def test_a_level_that_is_negative(self):
        # No tell leads out of this state, so that all else is as it has to be.
        found = right(QUIET, FIRST)
        for level, expected in ((0, True), (1, True), (9, True), (-1, False), (-9, False)):
            self.assertIs(Righted(found.tells, {**found.levels, ROUND: level}).shows(QUIET, FIRST), expected)

    def test_levels_that_are_missing(self):
        for state in self.found.levels:
            part = {other: self.found.levels[other] for other in self.found.levels if other != state}
            self.assertIs(self.shows(levels=part), False)
        self.assertIs(self.shows(levels={}), False)
        self.assertIs(self.shows(levels={FIRST: 0}), False)

    def test_levels_of_other_states(self):
        # What is asked of a state in the dict is asked only if its level is less than the number of the tells.
        for state in all_states(LINE):
            for level in (0, 1, 2, 3, 9):
                if state not in self.found.levels:
                    levels = {**self.found.levels, state: level}
                    self.assertIs(self.shows(levels=levels), are_levels(LINE, FIRST, 2, levels))
        self.assertIs(self.shows(levels={**self.found.levels, CUT: 2}), True)
        self.assertIs(self.shows(levels={**self.found.levels, CUT: 1}), False)

    def test_what_is_no_level_or_no_state(self):
        near, done = woven(LINE, KNOWN)
        for level in (None, "1", (1,), True, 1 + 0j):
            self.assertIs(self.shows(levels={**self.found.levels, near: level}), False)
        self.assertIs(self.shows(levels={**self.found.levels, FIRST: False}), False)
        part = {FIRST: 0, near: 1}
        for key in ((((True, 0, 0), (2, 1, 0)), (True, True)), (((1, 0, 0), (2, 1, 0)), (1, 1)),
                    (((1, 0, 0), (2, True, 0)), (True, True))):
            self.assertEqual(key, done)
            self.assertIs(self.shows(levels={**part, key: 2}), False)
        for key in (None, 3, "", (((4, None, 1), (4, None, 0)), (True, True))):
            self.assertIs(self.shows(levels={**self.found.levels, key: 2}), False)

    def test_another_net_and_another_state(self):
        for net in (RING, LINE.but("endless", 5), LINE.but("endless", 2)):
            self.assertIs(self.shows(net=net, state=first_state(net)), False)
        # Nothing is held down at first, so that here the same tells do it.
        self.assertIs(self.shows(net=LINE.but("hold", 1)), True)
        for state in all_states(LINE):
            self.assertIs(self.shows(state=state), state == FIRST)

    def test_parts_of_others_against_the_words_of_the_document(self):
        nets = [LINE, POISON, LINE.but("cry", "loud"), LINE.but("hold", 1)]
        for net in nets:
            states = [state for state in all_states(net) if can_right(net, state)]
            told = [right(net, state) for state in states]
            for other in nets:
                for state in states:
                    if not model.is_state(other, state):
                        continue
                    for at, one in enumerate(told):
                        levels = told[at - 1].levels if at % 2 else one.levels
                        expected = (all(model.is_state(other, key) for key in levels)
                                    and rights(other, state, one.tells)
                                    and are_levels(other, state, len(one.tells), levels))
                        self.assertIs(Righted(one.tells, levels).shows(other, state), expected)

    def test_more_than_enough_levels(self):
        _, states = walked(WIDE, WIDEST)
        found = right(WIDE, WIDEST)
        self.assertLess(len(found.levels), len(states))
        levels = {state: len(found.tells) for state in states} | found.levels
        self.assertIs(Righted(found.tells, levels).shows(WIDE, WIDEST), True)


class LostShows(unittest.TestCase):
    def setUp(self):
        self.net = Net(4, ((0, 1), (1, 2), (2, 3)), weak=(0,), split="quiet", hold=1)
        self.state = (((3, 2, 0), (2, 1, 0), (4, None, 1)), (False, True, True))
        self.found = right(self.net, self.state)
        self.assertGreater(len(self.found.states), 2)

    def shows(self, states, state=None, net=None):
        return Lost(states).shows(self.net if net is None else net, self.state if state is None else state)

    def test_as_it_is_told_and_in_another_order(self):
        self.assertIs(self.shows(self.found.states), True)
        self.assertIs(self.shows(self.found.states[::-1] * 2), True)
        self.assertIs(Lost([ROUND]).shows(QUIET, ROUND), True)

    def test_a_state_too_few(self):
        for state in self.found.states:
            self.assertIs(self.shows([other for other in self.found.states if other != state]), False)
        self.assertIs(self.shows([]), False)

    def test_a_state_that_is_right(self):
        cut = (((4, None, 0), (4, None, 0), (4, None, 0)), (False, True, True))
        self.assertTrue(are_true(self.net, cut))
        self.assertIs(self.shows([*self.found.states, cut]), False)
        for net, state in ((LINE, ROUND), (LINE, FIRST), (LINE, CUT)):
            _, states = walked(net, state)
            self.assertIs(Lost(list(states)).shows(net, state), False)
            self.assertIs(Lost([one for one in states if not are_true(net, one)]).shows(net, state), False)

    def test_states_that_are_not_led_to(self):
        other = (((2, 2, 0), (3, 1, 0)), (False, True))
        self.assertIs(Lost([ROUND, other]).shows(QUIET, ROUND), True)
        self.assertIs(Lost([ROUND, LATE]).shows(QUIET, ROUND), False)
        # It is no matter that other deeds than tells lead elsewhere.
        self.assertIs(Lost([ROUND]).shows(QUIET.with_weak((0, 1)), ROUND), True)

    def test_the_state_is_in_it(self):
        for state in all_states(QUIET):
            self.assertIs(Lost([ROUND]).shows(QUIET, state), state == ROUND)
        held = QUIET.but("hold", 1)
        self.assertIs(Lost([ROUND]).shows(held, ROUND), True)

    def test_what_is_no_state_of_the_net(self):
        for state in ((((3, 2, 0), (2, True, 0)), (False, True)), (((3, 2, 0), (2, 1, 0)), (0, 1)), None, 3,
                      (((3, 2, 0), (2, 1, 0)), (False, False))):
            self.assertIs(Lost([ROUND, state]).shows(QUIET, ROUND), False)
            self.assertIs(Lost([state]).shows(QUIET, ROUND), False)

    def test_another_net(self):
        for net in (LINE, POISON, LINE.but("cry", "loud")):
            self.assertIs(Lost([ROUND]).shows(net, ROUND), False)
        self.assertIs(self.shows(self.found.states, net=self.net.but("split", "plain")), False)
        for net in (self.net, self.net.but("split", "poison"), self.net.but("cry", "loud")):
            self.assertIs(self.shows(self.found.states, net=net), is_lost(net, self.state, self.found.states))


class Objects(unittest.TestCase):
    def test_equality(self):
        found = right(LINE, FIRST)
        again = Righted(KNOWN, dict(reversed(list(found.levels.items()))))
        self.assertTrue(found == again)
        self.assertFalse(found != again)
        for other in (Righted([], found.levels), Righted(KNOWN, {}), Righted(KNOWN, {**found.levels, FIRST: 1})):
            self.assertFalse(found == other)
            self.assertTrue(found != other)
        self.assertTrue(Lost([ROUND, LATE]) == Lost([ROUND, LATE]))
        self.assertFalse(Lost([ROUND, LATE]) != Lost([ROUND, LATE]))
        self.assertFalse(Lost([ROUND, LATE]) == Lost([LATE, ROUND]))
        self.assertTrue(Lost([ROUND]) != Lost([]))

    def test_nothing_else_is_equal(self):
        things = [Righted([], {}), Lost([])]
        for at, thing in enumerate(things):
            for other in [*ODD, [[]], ([], {}), Righted, Lost, things[1 - at]]:
                self.assertIs(thing == other, False)
                self.assertIs(thing != other, True)
                self.assertIs(other == thing, False)

    def test_lists_and_dict_are_copied(self):
        told, levels, states = list(KNOWN), {FIRST: 0}, [ROUND]
        found, lost = Righted(tells=told, levels=levels), Lost(states=states)
        told.clear()
        levels.clear()
        states.clear()
        self.assertEqual(vars(found), {"tells": KNOWN, "levels": {FIRST: 0}})
        self.assertEqual(vars(lost), {"states": [ROUND]})
        found.tells.clear()
        found.levels.clear()
        lost.states.clear()
        self.assertEqual((told, levels, states), ([], {}, []))
        self.assertEqual(Righted(tuple(KNOWN), {}).tells, KNOWN)

    def test_shows_and_equality_look_at_the_current_attributes(self):
        found, kept = right(LINE, FIRST), right(LINE, FIRST)
        for name, other in (("tells", KNOWN[:1]), ("levels", {})):
            setattr(found, name, other)
            self.assertIs(found.shows(LINE, FIRST), False)
            self.assertNotEqual(found, kept)
            setattr(found, name, getattr(kept, name))
            self.assertIs(found.shows(LINE, FIRST), True)
            self.assertEqual(found, kept)
        lost = Lost([])
        lost.states.append(ROUND)
        self.assertIs(lost.shows(QUIET, ROUND), True)
        self.assertEqual(lost, right(QUIET, ROUND))
        lost.states = []
        self.assertIs(lost.shows(QUIET, ROUND), False)

    def test_what_is_returned_is_new(self):
        for net, state in ((LINE, FIRST), (QUIET, ROUND), (LINE, CUT)):
            found, again = right(net, state), right(net, state)
            self.assertIsNot(found, again)
            self.assertEqual(found, again)
            for thing in vars(found).values():
                thing.clear()
            self.assertIs(again.shows(net, state), True)
            self.assertEqual(right(net, state), again)

    def test_shows_changes_nothing(self):
        found, kept = right(LINE, FIRST), right(LINE, FIRST)
        for state in all_states(LINE):
            found.shows(LINE, state)
        self.assertEqual(found, kept)
        self.assertEqual(list(found.levels), list(kept.levels))
        self.assertEqual(LINE, Net(3, ((0, 1), (1, 2)), weak=(0,)))


class WrongArguments(unittest.TestCase):
    CALLS = (right, can_right, fewest_tells, is_right, Righted([], {}).shows, Righted(KNOWN, {FIRST: 0}).shows,
             Lost([]).shows, Lost([ROUND]).shows)

    def test_no_net(self):
        for net in NO_NETS:
            for call in self.CALLS:
                for state in (FIRST, None, ROUND):
                    with self.subTest(net=net), self.assertRaises(BadNet) as caught:
                        call(net, state)
                    self.assertIsNone(caught.exception.part)

    def test_no_state(self):
        up = (True, True)
        wrong = [
            *ODD, (((True, 0, 0), (2, 1, 0)), up), (((1, 0, 0), (2, 1, 0)), (1, 1)), (((1, 0, 0), (2, 1, 0)), list(up)),
            (((1, 0, 0), (2, 1, 0)), (True, False)), [((1, 0, 0), (2, 1, 0)), up], (((1, 0, False), (2, 1, 0)), up),
            (((5, None, 0), (2, 1, 0)), up), (((4, 0, 0), (2, 1, 0)), up), (((1, None, 0), (2, 1, 0)), up),
            (((4, None, 1), (2, 1, 0)), up), (((1, 0, 0), (2, 0, 0)), up), (((1, 0, 0), (2, 1, 0)), (False, True)),
            (((0, 0, 0), (2, 1, 0)), up), (((1, 0, 0),), up), ([(1, 0, 0), (2, 1, 0)], up),
            (([1, 0, 0], (2, 1, 0)), up), first_state(PAIR), first_state(RING), first_state(LONG),
        ]
        for state in wrong:
            for call in self.CALLS:
                with self.subTest(state=state), self.assertRaises(BadState):
                    call(LINE, state)

    def test_states_that_do_not_come_about_are_states(self):
        odd = (((3, 0, 0), (1, 1, 0)), (True, True))
        self.assertNotIn(odd, all_states(LINE))
        self.assertEqual(fewest_tells(LINE, odd), 2)
        self.assertEqual(RING_WEAVING[:2], right(LINE, odd).tells)
