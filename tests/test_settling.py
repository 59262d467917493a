"""[7] and settling.py of the interface."""

import unittest

from hearsayways.errors import BadNet, TooLarge
from hearsayways.nets import Net
from hearsayways.settling import Longest, longest, longest_rush
from hearsayways.tables import after, all_states, first_state, woven

from tests import model
from tests.samples import LARGE, LINE, NO_DEEDS, NO_NETS, ODD, PAIR, RING, RING_WEAVING, TOO_LARGE, varied_nets

CALM = LINE.with_weak(())
CALM_RUSH = [("tell", 0, 1), ("tell", 1, 2)]
START = first_state(CALM)
NEAR, BOTH = (((1, 0, 0), (4, None, 0)), (True, True)), (((1, 0, 0), (2, 1, 0)), (True, True))
CALM_NUMBERS = {START: 2, NEAR: 1, BOTH: 0}


def calm(ahead=(), rush=None, numbers=None):
    """Whether this shows how long a rush in CALM can be; what is not told is as it should be."""
    found = Longest(list(ahead), CALM_RUSH if rush is None else rush, CALM_NUMBERS if numbers is None else numbers)
    return found.shows(CALM)


class Examples(unittest.TestCase):
    def test_example(self):
        net = Net(3, ((0, 1), (1, 2)), weak=(0,))
        self.assertEqual(
            [longest_rush(net), longest_rush(net.with_weak(())), longest(net).shows(net),
             Longest([], [("tell", 0, 1)], {}).shows(net)],
            [5, 2, True, False])

    def test_all_of_a_small_net(self):
        self.assertEqual(longest(CALM), Longest([], CALM_RUSH, CALM_NUMBERS))
        self.assertEqual(longest_rush(PAIR), 1)
        self.assertEqual(longest_rush(PAIR.but("endless", 2)), 1)
        self.assertEqual(longest(Net(4, ((2, 3),))), Longest([], [], {first_state(Net(4, ((2, 3),))): 0}))


class Rushes(unittest.TestCase):
    def is_longest(self, net, found, account):
        """Whether this is as in [7], told in the words of the document."""
        told = model.Model(net)
        for deed in found.ahead:
            self.assertIn(deed, told.deeds())
            told.do(deed)
        for deed in found.rush:
            before = told.state()
            self.assertIn(deed, told.deeds())
            self.assertEqual(deed[0], "tell")
            told.do(deed)
            self.assertNotEqual(told.state(), before)
        self.assertLessEqual(set(account.steps), set(found.numbers))
        for state in account.steps:
            self.assertIn(found.numbers[state], range(len(found.rush) + 1))
            for deed, later in account.steps[state].items():
                if deed[0] == "tell" and later != state:
                    self.assertLess(found.numbers[later], found.numbers[state])

    def test_against_an_account_of_its_own(self):
        for net in varied_nets():
            account = model.Account(net)
            with self.subTest(net=vars(net)):
                if len(account.steps) > 800:
                    for call in (longest, longest_rush):
                        with self.assertRaises(TooLarge):
                            call(net)
                    continue
                found = longest(net)
                self.assertEqual(len(found.rush), account.longest_rush())
                self.assertEqual(longest_rush(net), account.longest_rush())
                self.is_longest(net, found, account)
                self.assertIs(found.shows(net), True)

    def test_rules_make_rushes_longer_and_shorter(self):
        for endless in (2, 3, 4, 5):
            for hold in (0, 1, 2):
                net = RING.but("endless", endless).but("hold", hold)
                with self.subTest(endless=endless, hold=hold):
                    self.assertEqual(longest_rush(net), model.Account(net).longest_rush())
        # A hold that goes down by a telling is a change.
        self.assertEqual([longest_rush(PAIR.but("hold", hold)) for hold in (0, 1, 2)], [1, 2, 3])

    def test_up_to_800_states(self):
        found = longest(LARGE)
        self.assertEqual(len(found.numbers), 791)
        self.assertIs(found.shows(LARGE), True)

    def test_more_than_800_states(self):
        for call in (longest, longest_rush):
            with self.assertRaises(TooLarge):
                call(TOO_LARGE)


class Shows(unittest.TestCase):
    def test_any_weaving_ahead(self):
        self.assertIs(calm(), True)
        self.assertIs(calm(ahead=[("tell", 1, 2), ("tell", 2, 1)]), True)
        found = longest(LINE)
        self.assertIs(Longest([("fall", 0), ("come", 0), *found.ahead], found.rush, found.numbers).shows(LINE), True)

    def test_the_dict_in_any_order(self):
        self.assertIs(calm(numbers=dict(reversed(list(CALM_NUMBERS.items())))), True)

    def test_a_weaving_ahead_that_cannot_be_done(self):
        for deed in NO_DEEDS:
            with self.subTest(deed=deed):
                self.assertIs(calm(ahead=[deed]), False)
                self.assertIs(calm(ahead=[("tell", 1, 2), deed]), False)
        self.assertIs(calm(ahead=[("fall", 0)]), False)
        self.assertIs(calm(ahead=[("tell", 0, True)]), False)

    def test_the_rush_begins_behind_the_weaving(self):
        self.assertIs(calm(ahead=[("tell", 0, 1)]), False)
        found = longest(LINE)
        self.assertIs(Longest(found.ahead[:-1], found.rush, found.numbers).shows(LINE), False)
        self.assertIs(Longest([], found.rush, found.numbers).shows(LINE), False)

    def test_a_rush_that_is_too_short(self):
        self.assertIs(calm(rush=[]), False)
        self.assertIs(calm(rush=CALM_RUSH[:1]), False)
        self.assertIs(calm(ahead=CALM_RUSH[:1], rush=CALM_RUSH[1:]), False)
        found = longest(LINE)
        self.assertIs(Longest(found.ahead, found.rush[:-1], found.numbers).shows(LINE), False)
        less = {state: max(number - 1, 0) for state, number in found.numbers.items()}
        self.assertIs(Longest(found.ahead, found.rush[:-1], less).shows(LINE), False)

    def test_a_step_of_the_rush_that_changes_nothing(self):
        self.assertIs(calm(rush=[*CALM_RUSH, ("tell", 0, 1)]), False)
        self.assertIs(calm(rush=[("tell", 1, 2), *CALM_RUSH]), False)
        self.assertIs(calm(rush=[CALM_RUSH[0], ("tell", 0, 1), CALM_RUSH[1]]), False)

    def test_a_step_of_the_rush_that_cannot_be_done(self):
        for deed in NO_DEEDS:
            with self.subTest(deed=deed):
                self.assertIs(calm(rush=[deed, *CALM_RUSH]), False)
                self.assertIs(calm(rush=[*CALM_RUSH, deed]), False)
        self.assertIs(calm(rush=[("tell", False, 1), ("tell", 1, 2)]), False)
        self.assertIs(calm(rush=[("tell", 0, 1), ("tell", True, 2)]), False)

    def test_only_tells_are_in_a_rush(self):
        numbers = {state: 1 for state in all_states(PAIR)}
        numbers[woven(PAIR, [("tell", 0, 1)])[0]] = 0
        self.assertIs(Longest([], [("tell", 0, 1)], numbers).shows(PAIR), True)
        self.assertIs(Longest([], [("fall", 0)], numbers).shows(PAIR), False)
        self.assertIs(Longest([("fall", 0)], [("come", 0)], numbers).shows(PAIR), False)
        self.assertIs(Longest([], [("fall", 0), ("come", 0)], numbers).shows(PAIR), False)

    def test_numbers_that_are_missing(self):
        for state in CALM_NUMBERS:
            part = {other: number for other, number in CALM_NUMBERS.items() if other != state}
            self.assertIs(calm(numbers=part), False)
        self.assertIs(calm(numbers={}), False)
        found = longest(LINE)
        for state in found.numbers:
            part = {other: number for other, number in found.numbers.items() if other != state}
            self.assertIs(Longest(found.ahead, found.rush, part).shows(LINE), False)

    def test_numbers_within_their_bounds(self):
        self.assertIs(calm(numbers={**CALM_NUMBERS, START: 3}), False)
        self.assertIs(calm(numbers={**CALM_NUMBERS, BOTH: -1}), False)
        self.assertIs(calm(numbers={START: 3, NEAR: 2, BOTH: 1}), False)
        for number in (True, False, None, "1", (1,), [1], 10 ** 30):
            self.assertIs(calm(numbers={**CALM_NUMBERS, NEAR: number}), False)
        self.assertIs(calm(numbers={**CALM_NUMBERS, BOTH: False}), False)

    def test_numbers_that_do_not_fall(self):
        self.assertIs(calm(numbers={START: 2, NEAR: 2, BOTH: 0}), False)
        self.assertIs(calm(numbers={START: 2, NEAR: 0, BOTH: 0}), False)
        self.assertIs(calm(numbers={START: 1, NEAR: 1, BOTH: 0}), False)
        self.assertIs(calm(numbers={START: 0, NEAR: 1, BOTH: 2}), False)

    def test_numbers_need_not_fall_by_falls_and_comings(self):
        numbers = {state: 1 for state in all_states(PAIR)}
        numbers[woven(PAIR, [("tell", 0, 1)])[0]] = 0
        self.assertEqual(len(numbers), 3)
        self.assertIs(Longest([], [("tell", 0, 1)], numbers).shows(PAIR), True)

    def test_states_that_do_not_come_about(self):
        odd = (((1, 0, 0), (3, 1, 0)), (True, True))
        self.assertNotIn(odd, all_states(CALM))
        self.assertEqual({after(CALM, odd, deed) for deed in model.Model(CALM, odd).deeds()}, {odd, BOTH})
        self.assertIs(calm(numbers={**CALM_NUMBERS, odd: 1}), True)
        self.assertIs(calm(numbers={**CALM_NUMBERS, odd: 2}), True)
        self.assertIs(calm(numbers={**CALM_NUMBERS, odd: 0}), False)
        self.assertIs(calm(numbers={**CALM_NUMBERS, odd: 3}), False)
        # This one leads to others that have no number.
        self.assertIs(calm(numbers={**CALM_NUMBERS, (((3, 0, 0), (2, 1, 0)), (True, True)): 2}), False)

    def test_keys_that_are_no_states(self):
        for key in [(((1, 0, 0), (2, 1, 0)), (1, 1)), (((True, 0, 0), (2, 1, 0)), (True, True)),
                    (((1, False, 0), (2, 1, 0)), (True, True)), (((1, 0, False), (2, 1, 0)), (True, True))]:
            self.assertEqual(key, BOTH)
            self.assertIs(calm(numbers={START: 2, NEAR: 1, key: 0}), False)
        for key in [None, 3, "", (((4, None, 1), (4, None, 0)), (True, True))]:
            self.assertIs(calm(numbers={**CALM_NUMBERS, key: 0}), False)

    def test_another_net(self):
        found = longest(LINE)
        self.assertIs(found.shows(LINE.but("endless", 5)), False)
        self.assertIs(found.shows(RING), False)
        self.assertIs(found.shows(LINE.but("hold", 1)), False)

    def test_more_than_800_states_are_no_matter(self):
        account = model.Account(TOO_LARGE)
        numbers = {state: account.rush(state) for state in account.steps}
        most = account.longest_rush()
        top = [state for state in numbers if numbers[state] == most]
        shortest = min(top, key=account.depth.get)
        rush, state = [], shortest
        while numbers[state]:
            deed, state = next((deed, later) for deed, later in account.steps[state].items()
                               if deed[0] == "tell" and numbers[later] == numbers[state] - 1)
            rush.append(deed)
        ahead = weaving_to(account, shortest)
        self.assertIs(Longest(ahead, rush, numbers).shows(TOO_LARGE), True)
        self.assertIs(Longest(ahead, rush[:-1], numbers).shows(TOO_LARGE), False)


def weaving_to(account, state):
    """A weaving to a state, backwards by their numbers of deeds."""
    weaving = []
    while account.depth[state]:
        before, deed = next((before, deed) for before, ahead in account.steps.items() for deed in ahead
                            if ahead[deed] == state and account.depth[before] == account.depth[state] - 1)
        weaving.insert(0, deed)
        state = before
    return weaving


class Objects(unittest.TestCase):
    def test_equality(self):
        found = longest(LINE)
        again = Longest(found.ahead, found.rush, dict(reversed(list(found.numbers.items()))))
        self.assertTrue(found == again)
        self.assertFalse(found != again)
        for other in (Longest([], found.rush, found.numbers), Longest(found.ahead, [], found.numbers),
                      Longest(found.ahead, found.rush, {})):
            self.assertFalse(found == other)
            self.assertTrue(found != other)

    def test_nothing_else_is_equal(self):
        found = Longest([], [], {})
        for other in [*ODD, [[], [], {}], ([], [], {}), Longest]:
            self.assertIs(found == other, False)
            self.assertIs(found != other, True)
            self.assertIs(other == found, False)

    def test_lists_and_dict_are_copied(self):
        ahead, rush, numbers = [("tell", 1, 2)], list(CALM_RUSH), dict(CALM_NUMBERS)
        found = Longest(ahead, rush, numbers)
        ahead.clear()
        rush.append(None)
        numbers.clear()
        self.assertEqual(vars(found), {"ahead": [("tell", 1, 2)], "rush": CALM_RUSH, "numbers": CALM_NUMBERS})
        self.assertIs(found.shows(CALM), True)
        found.numbers.clear()
        found.rush.clear()
        found.ahead.append(3)
        self.assertEqual((ahead, len(rush), numbers), ([], 3, {}))

    def test_names_of_parameters(self):
        self.assertEqual(Longest(ahead=[], rush=CALM_RUSH, numbers=CALM_NUMBERS), longest(CALM))

    def test_shows_and_equality_look_at_the_current_attributes(self):
        found = Longest([], [], {})
        found.rush.extend(CALM_RUSH)
        self.assertIs(found.shows(CALM), False)
        found.numbers = dict(CALM_NUMBERS)
        self.assertIs(found.shows(CALM), True)
        self.assertEqual(found, longest(CALM))
        found.ahead = [("tell", 0, 1)]
        self.assertIs(found.shows(CALM), False)
        self.assertNotEqual(found, longest(CALM))

    def test_what_is_returned_is_new(self):
        found, again = longest(LINE), longest(LINE)
        self.assertEqual(found, again)
        for name in ("ahead", "rush", "numbers"):
            self.assertIsNot(getattr(found, name), getattr(again, name))
            getattr(found, name).clear()
        self.assertIs(again.shows(LINE), True)
        self.assertEqual(longest(LINE), again)

    def test_shows_changes_nothing(self):
        found = longest(LINE)
        kept = Longest(found.ahead, found.rush, found.numbers)
        found.shows(LINE)
        found.shows(RING)
        self.assertEqual(found, kept)
        self.assertEqual(list(found.numbers), list(kept.numbers))


class WrongArguments(unittest.TestCase):
    def test_no_net(self):
        for net in NO_NETS:
            for call in (longest, longest_rush, Longest([], [], {}).shows, Longest(RING_WEAVING, [], {}).shows):
                with self.subTest(net=net), self.assertRaises(BadNet) as caught:
                    call(net)
                self.assertIsNone(caught.exception.part)
