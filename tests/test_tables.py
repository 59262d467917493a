"""[1], [3], [4], the true distances of [5], and tables.py of the interface."""

import unittest

from hearsayways.errors import BadDeed, BadNet, BadState, BadWeaving, TooLarge
from hearsayways.nets import Net
from hearsayways.tables import after, all_states, deeds, first_state, truly, woven

from tests.samples import LINE, LONG, NO_NETS, PAIR, RING


class Examples(unittest.TestCase):
    def test_example(self):
        net = Net(3, ((0, 1), (1, 2)), weak=(0,))
        weaving = [("tell", 0, 1), ("tell", 1, 2), ("fall", 0), ("tell", 2, 1), ("tell", 1, 2)]
        states = woven(net, weaving)
        self.assertEqual(
            [first_state(net), states[1], states[2], truly(net, states[1]), truly(net, states[2]), states[4],
             deeds(net, states[4])],
            [(((4, None, 0), (4, None, 0)), (True, True)), (((1, 0, 0), (2, 1, 0)), (True, True)),
             (((4, None, 0), (2, 1, 0)), (False, True)), [0, 1, 2], [0, 4, 4],
             (((3, 2, 0), (4, None, 0)), (False, True)), [("tell", 1, 2), ("tell", 2, 1), ("come", 0)]])

    def test_first_state(self):
        self.assertEqual(first_state(PAIR), (((4, None, 0),), (True,)))
        self.assertEqual(first_state(LONG.but("hold", 2)), (((5, None, 0),) * 3, (True,) * 3))
        self.assertEqual(first_state(PAIR.but("endless", 2)), (((2, None, 0),), (True,)))


class Deeds(unittest.TestCase):
    def test_order(self):
        net = Net(4, ((0, 1), (0, 3), (1, 2), (1, 3), (2, 3)), weak=(0, 2, 4))
        state = (((4, None, 0),) * 3, (False, True, True, True, False))
        self.assertEqual(deeds(net, state), [
            ("tell", 0, 3), ("tell", 1, 2), ("tell", 1, 3), ("tell", 2, 1), ("tell", 3, 1),
            ("fall", 2), ("come", 0), ("come", 4)])

    def test_nobody_tells_the_place(self):
        self.assertEqual(deeds(PAIR, first_state(PAIR)), [("tell", 0, 1), ("fall", 0)])
        self.assertEqual(deeds(PAIR, (((4, None, 0),), (False,))), [("come", 0)])
        self.assertEqual(deeds(PAIR.with_weak(()), first_state(PAIR)), [("tell", 0, 1)])

    def test_quiet_does_not_tell_a_way_back(self):
        state = (((1, 0, 0), (2, 1, 0)), (True, True))
        self.assertIn(("tell", 2, 1), deeds(LINE, state))
        self.assertIn(("tell", 2, 1), deeds(LINE.but("split", "poison"), state))
        quiet = LINE.but("split", "quiet")
        self.assertEqual(deeds(quiet, state), [("tell", 0, 1), ("tell", 1, 2), ("fall", 0)])
        self.assertIn(("tell", 2, 1), deeds(quiet, first_state(quiet)))
        with self.assertRaises(BadDeed):
            after(quiet, state, ("tell", 2, 1))


class Tellings(unittest.TestCase):
    def test_a_nearer_way_is_taken_over(self):
        state = (((3, 2, 0), (2, 0, 0)), (True, True, True))
        self.assertEqual(after(RING, state, ("tell", 0, 1)), (((1, 0, 0), (2, 0, 0)), (True, True, True)))

    def test_an_equal_or_farther_way_is_not(self):
        state = (((2, 2, 0), (1, 0, 0)), (True, True, True))
        self.assertEqual(after(RING, state, ("tell", 1, 2)), state)
        equal = (((1, 0, 0), (2, 0, 0)), (True, True, True))
        self.assertEqual(after(RING, equal, ("tell", 1, 2)), equal)

    def test_whom_one_goes_by_is_believed(self):
        state = (((2, 2, 0), (1, 0, 0)), (True, True, True))
        worse = (((2, 2, 0), (2, 1, 0)), (True, True, True))
        self.assertEqual(after(RING, worse, ("tell", 2, 1)), (((3, 2, 0), (2, 1, 0)), (True, True, True)))
        better = (((3, 2, 0), (1, 0, 0)), (True, True, True))
        self.assertEqual(after(RING, better, ("tell", 2, 1)), state)

    def test_a_way_becomes_endless_at_the_endless_distance(self):
        state = (((2, 2, 0), (3, 1, 0)), (False, True))
        self.assertEqual(after(LINE, state, ("tell", 2, 1)), (((4, None, 0), (3, 1, 0)), (False, True)))
        self.assertEqual(after(LINE.but("endless", 5), state, ("tell", 2, 1)),
                         (((4, 2, 0), (3, 1, 0)), (False, True)))

    def test_who_hears_of_an_endless_way(self):
        state = (((4, None, 0), (2, 1, 0)), (False, True))
        self.assertEqual(after(LINE, state, ("tell", 1, 2)), (((4, None, 0), (4, None, 0)), (False, True)))
        self.assertEqual(after(LINE.but("hold", 2), state, ("tell", 1, 2)),
                         (((4, None, 0), (4, None, 2)), (False, True)))
        start = first_state(LINE)
        self.assertEqual(after(LINE, start, ("tell", 1, 2)), start)

    def test_as_great_as_the_endless_distance_is_no_way(self):
        net = PAIR.but("endless", 2)
        self.assertEqual(after(net, first_state(net), ("tell", 0, 1)), (((1, 0, 0),), (True,)))
        near = LINE.but("endless", 2)
        state = (((1, 0, 0), (2, None, 0)), (True, True))
        self.assertEqual(after(near, state, ("tell", 1, 2)), state)

    def test_poison_tells_a_way_back_as_endless(self):
        net = LINE.but("split", "poison")
        state = (((4, None, 0), (2, 1, 0)), (False, True))
        self.assertEqual(after(LINE, state, ("tell", 2, 1)), (((3, 2, 0), (2, 1, 0)), (False, True)))
        self.assertEqual(after(net, state, ("tell", 2, 1)), state)
        both = (((3, 2, 0), (2, 1, 0)), (False, True))
        self.assertEqual(after(net, both, ("tell", 1, 2)), (((3, 2, 0), (4, None, 0)), (False, True)))

    def test_a_hold_goes_down_whatever_is_heard(self):
        net = LINE.but("hold", 2)
        state = (((4, None, 2), (4, None, 1)), (True, True))
        once = after(net, state, ("tell", 0, 1))
        self.assertEqual(once, (((4, None, 1), (4, None, 1)), (True, True)))
        twice = after(net, once, ("tell", 2, 1))
        self.assertEqual(twice, (((4, None, 0), (4, None, 1)), (True, True)))
        self.assertEqual(after(net, twice, ("tell", 0, 1)), (((1, 0, 0), (4, None, 1)), (True, True)))

    def test_hold_begins_anew_when_the_way_becomes_endless(self):
        for hold in (0, 1, 2):
            net = PAIR.but("hold", hold)
            fallen = (((4, None, hold),), (False,))
            self.assertEqual(woven(net, [("tell", 0, 1), ("fall", 0)])[-1], fallen)
            history = [("tell", 0, 1), ("fall", 0), ("come", 0)] + [("tell", 0, 1)] * (hold + 1)
            rows = [state[0][0] for state in woven(net, history)[2:]]
            self.assertEqual(rows, [(4, None, left) for left in range(hold, -1, -1)] + [(1, 0, 0)])


class FallsAndComings(unittest.TestCase):
    def test_come_changes_nothing_else(self):
        state = (((3, 2, 0), (2, 1, 0)), (False, True))
        self.assertEqual(after(LINE, state, ("come", 0)), (((3, 2, 0), (2, 1, 0)), (True, True)))

    def test_fall_that_nobody_goes_by(self):
        state = (((1, 0, 0), (1, 0, 0)), (True, True, True))
        self.assertEqual(after(RING, state, ("fall", 2)), (((1, 0, 0), (1, 0, 0)), (True, True, False)))

    def test_fall_between_two_that_go_by_each_other(self):
        state = (((3, 2, 0), (2, 1, 0)), (True, True, True))
        for net in (RING, RING.but("cry", "loud")):
            self.assertEqual(after(net, state, ("fall", 2)), (((4, None, 0), (4, None, 0)), (True, True, False)))
            held = net.but("hold", 1)
            self.assertEqual(after(held, state, ("fall", 2)), (((4, None, 1), (4, None, 1)), (True, True, False)))

    def test_still_leaves_those_farther_off(self):
        state = (((1, 0, 0), (2, 1, 0), (3, 2, 0)), (True, True, True))
        self.assertEqual(after(LONG, state, ("fall", 0)),
                         (((5, None, 0), (2, 1, 0), (3, 2, 0)), (False, True, True)))

    def test_loud_goes_through_several_hosts(self):
        state = (((1, 0, 0), (2, 1, 0), (3, 2, 0)), (True, True, True))
        for hold in (0, 1, 2):
            net = LONG.but("cry", "loud").but("hold", hold)
            gone = (5, None, hold)
            self.assertEqual(after(net, state, ("fall", 0)), ((gone, gone, gone), (False, True, True)))
            self.assertEqual(after(net, state, ("fall", 1)), (((1, 0, 0), gone, gone), (True, False, True)))
            self.assertEqual(after(net, state, ("fall", 2)), (((1, 0, 0), (2, 1, 0), gone), (True, True, False)))

    def test_loud_goes_on_from_a_telling(self):
        state = (((4, 2, 0), (4, 1, 0), (3, 2, 0)), (False, True, True))
        gone = (5, None, 1)
        loud = LONG.but("cry", "loud").but("hold", 1)
        self.assertEqual(after(loud, state, ("tell", 1, 2)), ((gone, gone, gone), (False, True, True)))
        still = LONG.but("hold", 1)
        self.assertEqual(after(still, state, ("tell", 1, 2)), (((4, 2, 0), gone, (3, 2, 0)), (False, True, True)))

    def test_loud_leaves_holds_of_those_that_go_by_none(self):
        net = LONG.but("cry", "loud").but("hold", 2)
        state = (((1, 0, 0), (5, None, 1), (4, 2, 0)), (True, True, True))
        self.assertEqual(after(net, state, ("fall", 0)),
                         (((5, None, 2), (5, None, 1), (4, 2, 0)), (False, True, True)))


class TrueDistances(unittest.TestCase):
    def test_endless_bounds_them(self):
        for endless, told in ((2, [0, 1, 2, 2]), (3, [0, 1, 2, 3]), (4, [0, 1, 2, 3]), (5, [0, 1, 2, 3])):
            net = LONG.but("endless", endless)
            self.assertEqual(truly(net, first_state(net)), told)

    def test_only_ties_that_stand_count(self):
        state = (((4, None, 0), (4, None, 0)), (False, True, True))
        self.assertEqual(truly(RING, state), [0, 2, 1])
        self.assertEqual(truly(RING, (state[0], (False, False, True))), [0, 4, 4])
        self.assertEqual(truly(RING, (state[0], (True, True, False))), [0, 1, 1])

    def test_hosts_apart(self):
        net = Net(4, ((2, 3),))
        self.assertEqual(truly(net, first_state(net)), [0, 4, 4, 4])
        turned = Net(4, ((0, 3), (1, 2), (2, 3)), endless=5)
        self.assertEqual(truly(turned, first_state(turned)), [0, 3, 2, 1])


class Weavings(unittest.TestCase):
    def test_none_and_tuples(self):
        self.assertEqual(woven(LINE, []), [])
        self.assertEqual(woven(LINE, ()), [])
        told = [(((1, 0, 0), (4, None, 0)), (True, True))]
        self.assertEqual(woven(LINE, (("tell", 0, 1),)), told)
        self.assertEqual(woven(LINE, [("tell", 0, 1)]), told)

    def test_index_of_the_first_wrong_deed(self):
        cases = [
            ([("come", 0)], 0), ([("fall", 0), ("tell", 0, 1)], 1), ([("fall", 0), ("come", 0), ("come", 0)], 2),
            ([("fall", 0), ("fall", 0), ("come", 1)], 1), ([("tell", 0, 1), None], 1), ([[]], 0),
            ([("tell", 0, 1), ["tell", 1, 2]], 1), ((("tell", False, 1),), 0), ((("fall", False),), 0),
        ]
        for history, index in cases:
            with self.subTest(history=history), self.assertRaises(BadWeaving) as caught:
                woven(LINE, history)
            self.assertEqual(caught.exception.index, index)

    def test_what_is_no_list_or_tuple(self):
        for history in (None, "", "tell", b"", {}, {("fall", 0): 1}, 0, True, set(), iter([]), object(), LINE):
            with self.subTest(history=history), self.assertRaises(BadWeaving) as caught:
                woven(LINE, history)
            self.assertIsNone(caught.exception.index)


class AllStates(unittest.TestCase):
    def test_a_pair(self):
        endless = (4, None, 0)
        self.assertEqual(sorted(all_states(PAIR), key=str), sorted([
            ((endless,), (True,)), (((1, 0, 0),), (True,)), ((endless,), (False,))], key=str))
        self.assertEqual(all_states(Net(4, ((2, 3),))), [first_state(Net(4, ((2, 3),)))])

    def test_without_weak_ties(self):
        calm = LINE.with_weak(())
        self.assertEqual(sorted(state[0] for state in all_states(calm) if state[0][0][1] is not None),
                         [((1, 0, 0), (2, 1, 0)), ((1, 0, 0), (4, None, 0))])
        self.assertEqual(len(all_states(calm)), 3)

    def test_up_to_800_states(self):
        net = Net(4, ((0, 1), (0, 2), (0, 3), (1, 2)), weak=(0, 1, 2), hold=2)
        states = all_states(net)
        self.assertEqual(len(states), 791)
        self.assertEqual(len(set(states)), 791)
        self.assertIn(first_state(net), states)

    def test_more_than_800_states(self):
        ties = ((0, 1), (0, 2), (0, 3), (1, 2), (1, 3))
        # 806 states come about in the first of these, the fewest above 800 that there are in any net.
        for net in (Net(4, ties, weak=(0, 1, 3), split="poison", hold=2),
                    Net(4, ties, weak=(0, 3, 4), endless=5, hold=2)):
            with self.assertRaises(TooLarge):
                all_states(net)
            self.assertEqual(len(woven(net, [("tell", 0, 1)])), 1)


class WrongArguments(unittest.TestCase):
    def test_no_net(self):
        state = first_state(LINE)
        for net in NO_NETS:
            for call in (first_state, all_states, lambda it: deeds(it, state), lambda it: truly(it, state),
                         lambda it: after(it, state, ("fall", 0)), lambda it: woven(it, [])):
                with self.subTest(net=net), self.assertRaises(BadNet) as caught:
                    call(net)
                self.assertIsNone(caught.exception.part)

    def refuse_state(self, net, state):
        for call in (deeds, truly, lambda of, it: after(of, it, ("tell", 0, 1))):
            with self.subTest(state=state), self.assertRaises(BadState):
                call(net, state)

    def test_no_state(self):
        up = (True, True)
        good = ((1, 0, 0), (2, 1, 0))
        self.assertEqual(truly(LINE, (good, up)), [0, 1, 2])
        wrong = [
            None, True, 0, "", "ab", [], {}, (), (good,), (good, up, 0), [good, up], (list(good), up),
            (good, list(up)), (good[:1], up), (good + ((3, 1, 0),), up), (good, up[:1]), (good, up + (True,)),
            (good, (1, 1)), (good, (True, 1)), (good, (True, None)), (good, (True, False)), (good, (False, True)),
            (([1, 0, 0], (2, 1, 0)), up), ((None, (2, 1, 0)), up), (("100", (2, 1, 0)), up), (0, up), (good, 0),
            ("ab", up), (good, "ab"), (up, good), object(), LINE,
        ]
        for state in wrong:
            self.refuse_state(LINE, state)

    def test_no_entry(self):
        up = (True, True)
        wrong = [
            (0, 0, 0), (-1, 0, 0), (5, None, 0), (5, 0, 0), (4, 0, 0), (1, None, 0), (3, None, 0), (1, 1, 0),
            (1, 3, 0), (1, -1, 0), (1, 0, 1), (1, 0, -1), (4, None, -1), (4, None, 1), (True, 0, 0),
            (1, False, 0), (1, 0, False), (4, None, False), ("1", 0, 0), (1, "0", 0), (1, 0, "0"), (None, None, 0),
            (1, (0,), 0), (1, 0), (1, 0, 0, 0), (1, [0], 0), ([1], 0, 0), (4, None, None), (10 ** 30, None, 0),
        ]
        for entry in wrong:
            self.refuse_state(LINE, ((entry, (2, 1, 0)), up))
        self.refuse_state(LINE, (((1, 0, 0), (1, 0, 0)), up))
        self.refuse_state(LINE, (((1, 0, 0), (2, 1, 0)), (False, True)))
        self.refuse_state(LINE.with_weak((1,)), (((1, 0, 0), (2, 1, 0)), (True, False)))

    def test_bounds_of_entries(self):
        up = (True, True)
        held = LINE.but("hold", 1)
        self.assertEqual(truly(held, (((4, None, 1), (3, 1, 0)), up)), [0, 1, 2])
        self.refuse_state(held, (((4, None, 2), (3, 1, 0)), up))
        self.refuse_state(held, (((1, 0, 1), (3, 1, 0)), up))
        self.refuse_state(LINE.but("endless", 3), (((3, 0, 0), (2, 1, 0)), up))
        self.refuse_state(LINE.but("endless", 5), (((4, None, 0), (2, 1, 0)), up))
        # A state need not come about: here nobody could have told so great a distance.
        self.assertEqual(truly(LINE, (((3, 0, 0), (1, 1, 0)), up)), [0, 1, 2])

    def test_no_deed(self):
        state = first_state(LINE)
        wrong = [
            None, True, 0, "", "tell", "fall", [], (), {}, ("tell",), ("tell", 0), ("tell", 0, 1, 2), ["tell", 0, 1],
            ("tell", 1, 0), ("tell", 0, 2), ("tell", 1, 1), ("tell", 0, 0), ("tell", -1, 1), ("tell", 3, 1),
            ("tell", False, 1), ("tell", 0, True), ("tell", True, 2), ("tell", "0", "1"), ("tell", 0, None),
            ("Tell", 0, 1), ("fall",), ("fall", 1), ("fall", 2), ("fall", -1), ("fall", False), ("fall", (0,)),
            ("fall", 0, 0), ("fall", [0]), ("come", 0), ("come", False), (0, "fall"), (("fall", 0),), (None, 0),
            (["fall"], 0), ("hop",), object(), LINE,
        ]
        for deed in wrong:
            with self.subTest(deed=deed), self.assertRaises(BadDeed):
                after(LINE, state, deed)

    def test_two_at_once(self):
        for call in (deeds, truly, woven, lambda net, state: after(net, state, None)):
            with self.assertRaises(BadNet):
                call(None, None)
        with self.assertRaises(BadNet):
            after(None, first_state(LINE), None)
        with self.assertRaises(BadState):
            after(LINE, None, None)
        with self.assertRaises(BadWeaving) as caught:
            woven(LINE, [("tell", 0, 1), ("come", 0), None])
        self.assertEqual(caught.exception.index, 1)


class NewAndUnchanged(unittest.TestCase):
    def test_arguments_are_left_as_they_are(self):
        history = [("tell", 0, 1), ("fall", 0)]
        states = woven(LINE, history)
        self.assertEqual(history, [("tell", 0, 1), ("fall", 0)])
        history.append(("come", 0))
        self.assertEqual(len(states), 2)
        wrong = [("tell", 0, 1), ["tell", 0, 1]]
        with self.assertRaises(BadWeaving):
            woven(LINE, wrong)
        self.assertEqual(wrong, [("tell", 0, 1), ["tell", 0, 1]])

    def test_lists_are_new(self):
        state = first_state(LINE)
        for call in (lambda: deeds(LINE, state), lambda: truly(LINE, state), lambda: all_states(LINE),
                     lambda: woven(LINE, [("fall", 0)])):
            told = call()
            once = list(told)
            told.clear()
            self.assertEqual(call(), once)

    def test_all_nets_are_left_as_they_are(self):
        net = Net(3, ((0, 1), (1, 2)), weak=(0,), hold=1)
        all_states(net)
        woven(net, [("tell", 0, 1), ("fall", 0)])
        self.assertEqual(net, Net(3, ((0, 1), (1, 2)), weak=(0,), hold=1))
