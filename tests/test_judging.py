"""[5], [6] and judging.py of the interface."""

import unittest

from hearsayways import judging
from hearsayways.errors import BadNet, BadState, BadWeaving, BadWish, TooLarge
from hearsayways.judging import WISHES, Broken, Safe, broken_by, is_safe, judge, settled, soonest
from hearsayways.nets import Net
from hearsayways.tables import all_states, first_state, woven

from tests import model
from tests.samples import (
    LARGE, LINE, LONG, NO_DEEDS, NO_NETS, NO_WISHES, ODD, PAIR, RING, RING_WEAVING, TOO_LARGE, varied_nets)

CALM = LINE.with_weak(())
FAR = LINE.but("endless", 5)
# A net of which more than 800 states come about, and a wish is broken soon, as soon as the hold is over.
HELD = Net(4, ((0, 1), (0, 2), (1, 2), (1, 3), (2, 3)), weak=(0, 1, 2), hold=2)
HELD_WEAVING = [*RING_WEAVING, ("tell", 2, 1), ("tell", 2, 1)]
CLIMB_WEAVING = [*RING_WEAVING, ("tell", 1, 2)]


class Examples(unittest.TestCase):
    def test_example(self):
        net = Net(3, ((0, 1), (1, 2)), weak=(0,))
        weaving = [("tell", 0, 1), ("tell", 1, 2), ("fall", 0), ("tell", 2, 1)]
        self.assertEqual(
            [[soonest(net, wish) for wish in ("climb", "misled", "ring", "wrong")], broken_by(net, weaving),
             [is_safe(net.but("split", word), "ring") for word in ("plain", "poison", "quiet")],
             Broken(weaving).shows(net, "misled"), settled(net, first_state(net))],
            [[None, 4, 4, None], [[], [], [], ["misled", "ring"]], [False, True, True], True, False])

    def test_wishes(self):
        self.assertEqual(WISHES, ("climb", "misled", "ring", "wrong"))


class Settled(unittest.TestCase):
    def test_when_no_telling_changes_anything(self):
        up, down = (True, True), (False, True)
        self.assertIs(settled(LINE, (((1, 0, 0), (2, 1, 0)), up)), True)
        self.assertIs(settled(LINE, (((1, 0, 0), (4, None, 0)), up)), False)
        self.assertIs(settled(LINE, (((4, None, 0), (4, None, 0)), down)), True)
        self.assertIs(settled(LINE, (((4, None, 0), (2, 1, 0)), down)), False)

    def test_a_hold_that_goes_down_is_a_change(self):
        net = LINE.but("hold", 1)
        self.assertIs(settled(net, (((4, None, 1), (4, None, 0)), (False, True))), False)
        self.assertIs(settled(net, (((4, None, 0), (4, None, 0)), (False, True))), True)
        # Nobody tells this host anything, so that its hold stays.
        apart = PAIR.but("hold", 2)
        self.assertIs(settled(apart, (((4, None, 2),), (False,))), True)
        self.assertIs(settled(apart, (((4, None, 2),), (True,))), False)

    def test_what_quiet_does_not_tell_changes_nothing(self):
        state = (((3, 2, 0), (2, 1, 0)), (False, True))
        self.assertIs(settled(LINE, state), False)
        self.assertIs(settled(LINE.but("split", "poison"), state), False)
        self.assertIs(settled(LINE.but("split", "quiet"), state), True)

    def test_falls_and_comings_do_not_count(self):
        self.assertIs(settled(PAIR, (((1, 0, 0),), (True,))), True)
        self.assertIs(settled(PAIR, (((4, None, 0),), (False,))), True)

    def test_against_the_model(self):
        for split in ("plain", "poison", "quiet"):
            net = RING.but("split", split).but("hold", 1)
            for state in model.come_about(net):
                self.assertIs(settled(net, state), model.is_settled(net, state))


class BrokenBy(unittest.TestCase):
    def test_climb_is_not_up_to_the_endless_distance(self):
        self.assertEqual(broken_by(FAR, CLIMB_WEAVING), [[], [], [], ["misled", "ring"], ["climb", "ring"]])
        self.assertEqual(broken_by(LINE, CLIMB_WEAVING), [[], [], [], ["misled", "ring"], []])

    def test_climb_is_not_by_a_fall(self):
        self.assertEqual(broken_by(FAR, [("tell", 0, 1), ("fall", 0)]), [[], []])

    def test_climb_is_for_what_is_greater(self):
        self.assertEqual(broken_by(RING, [("tell", 0, 1), ("tell", 0, 1)]), [[], []])
        # Host 2 goes by host 1, which has to go round by host 3 when its tie to the host 0 falls.
        net = Net(4, ((0, 1), (0, 3), (1, 2), (1, 3)), weak=(0,))
        weaving = [("tell", 0, 1), ("tell", 1, 2), ("tell", 0, 3), ("fall", 0), ("tell", 3, 1), ("tell", 1, 2)]
        self.assertEqual(broken_by(net, weaving), [[], [], [], [], [], ["climb"]])

    def test_misled_is_for_whom_no_ties_lead_to_the_place(self):
        again = [*RING_WEAVING[:3], ("come", 0), ("tell", 2, 1)]
        self.assertEqual(broken_by(LINE, again), [[], [], [], [], ["ring"]])
        net = Net(3, ((0, 1), (0, 2), (1, 2)), weak=(0, 1))
        cut = [("tell", 0, 1), ("tell", 1, 2), ("fall", 0), ("tell", 2, 1)]
        self.assertEqual(broken_by(net, cut), [[], [], [], ["ring"]])
        self.assertEqual(broken_by(net, [*cut[:3], ("fall", 1), cut[3]]), [[], [], [], [], ["misled", "ring"]])

    def test_misled_is_for_whom_it_was_endless(self):
        # No ties lead from host 2 to the host 0, either, when its distance climbs.
        self.assertEqual(broken_by(FAR, CLIMB_WEAVING)[-1], ["climb", "ring"])
        self.assertEqual(broken_by(FAR, [*CLIMB_WEAVING, ("tell", 2, 1), ("tell", 2, 1)])[-2:], [[], []])

    def test_misled_is_not_for_whom_another_way_is_shorter(self):
        # Host 1 is misled by host 3, and then it hears of a shorter way by host 2, which there is not, either.
        net = Net(4, ((0, 1), (1, 2), (1, 3), (2, 3)), weak=(0,), endless=5)
        weaving = [("tell", 0, 1), ("tell", 1, 2), ("tell", 2, 3), ("fall", 0), ("tell", 3, 1), ("tell", 2, 1)]
        self.assertEqual([state[0][0] for state in woven(net, weaving)[4:]], [(4, 3, 0), (3, 2, 0)])
        self.assertEqual(broken_by(net, weaving), [[], [], [], [], ["misled", "ring"], ["ring"]])
        self.assertIs(Broken(weaving).shows(net, "misled"), False)

    def test_ring_of_two_is_seen_while_it_lasts(self):
        weaving = [*RING_WEAVING, ("come", 0), ("tell", 0, 1)]
        self.assertEqual(broken_by(LINE, weaving), [[], [], [], ["misled", "ring"], ["ring"], []])

    def test_ring_of_three(self):
        net = Net(4, ((0, 1), (1, 2), (1, 3), (2, 3)), weak=(0, 2), endless=5, split="poison")
        weaving = [("tell", 0, 1), ("tell", 1, 2), ("tell", 2, 3), ("fall", 0), ("tell", 3, 1)]
        self.assertEqual(broken_by(net, weaving), [[], [], [], [], ["misled", "ring"]])
        self.assertEqual(woven(net, weaving)[-1][0], ((4, 3, 0), (2, 1, 0), (3, 2, 0)))

    def test_ring_that_does_not_come_to_all(self):
        # Host 3 goes by host 2, and the hosts 1 and 2 go by each other.
        weaving = [("tell", 0, 1), ("tell", 1, 2), ("tell", 2, 3), ("fall", 0), ("tell", 2, 1)]
        self.assertEqual(broken_by(LONG, weaving)[-1], ["misled", "ring"])
        self.assertEqual(broken_by(LONG, weaving[:3]), [[], [], []])

    def test_none_and_tuples(self):
        self.assertEqual(broken_by(LINE, []), [])
        self.assertEqual(broken_by(LINE, ()), [])
        self.assertEqual(broken_by(LINE, tuple(RING_WEAVING)), [[], [], [], ["misled", "ring"]])

    def test_against_the_model(self):
        for split in ("plain", "poison"):
            for endless in (4, 5):
                net = RING.but("split", split).but("endless", endless)
                for wish in WISHES:
                    found = judge(net, wish)
                    if isinstance(found, Broken):
                        self.check(net, found.weaving)

    def check(self, net, weaving):
        told, expected = model.Model(net), []
        for deed in weaving:
            state = told.state()
            told.do(deed)
            expected.append(sorted(model.broken_through(net, state, deed) | model.broken_in(net, told.state())))
        self.assertEqual(broken_by(net, weaving), expected)


class Judging(unittest.TestCase):
    def check(self, net, wish, account, many):
        found = judge(net, wish)
        self.assertEqual(soonest(net, wish), many)
        self.assertIs(is_safe(net, wish), many is None)
        self.assertIsInstance(found, Safe if many is None else Broken)
        self.assertIs(found.shows(net, wish), True)
        if many is None:
            self.assertEqual(set(found.states), set(account.steps))
        else:
            self.assertEqual(len(found.weaving), many)
            self.assertTrue(model.ends_broken(net, wish, found.weaving))

    def test_against_a_walk_over_all_states(self):
        for net in varied_nets():
            account = model.Account(net)
            with self.subTest(net=vars(net)):
                if len(account.steps) > 800:
                    with self.assertRaises(TooLarge):
                        judge(net, "ring")
                    continue
                many = account.soonest()
                for wish in WISHES:
                    self.check(net, wish, account, many.get(wish))

    def test_each_wish_is_broken_by_some_net_that_can_break_it(self):
        self.assertEqual([soonest(FAR, wish) for wish in WISHES], [5, 4, 4, None])
        self.assertEqual([soonest(CALM, wish) for wish in WISHES], [None, None, None, None])
        self.assertEqual([soonest(PAIR, wish) for wish in WISHES], [None, None, None, None])
        self.assertEqual([is_safe(FAR, wish) for wish in WISHES], [False, False, False, True])

    def test_poison_does_not_keep_off_a_ring_of_three(self):
        net = Net(4, ((0, 1), (1, 2), (1, 3), (2, 3)), weak=(0,), endless=5)
        self.assertEqual([soonest(net.but("split", word), "ring") for word in ("plain", "poison", "quiet")], [4, 5, 5])
        loud = net.but("cry", "loud")
        self.assertEqual([is_safe(loud.but("split", word), "ring") for word in ("plain", "poison")], [True, True])

    def test_up_to_800_states(self):
        for wish in WISHES:
            found = judge(LARGE, wish)
            self.assertTrue(found.shows(LARGE, wish))
        self.assertEqual(len(set(judge(LARGE, "wrong").states)), 791)

    def test_more_than_800_states_even_if_a_wish_is_broken_soon(self):
        self.assertTrue(Broken(HELD_WEAVING).shows(HELD, "ring"))
        for wish in WISHES:
            for call in (judge, is_safe, soonest):
                for large in (HELD, TOO_LARGE):
                    with self.assertRaises(TooLarge):
                        call(large, wish)


class SafeShows(unittest.TestCase):
    def test_any_order_and_some_more_than_once(self):
        states = all_states(CALM)
        for wish in WISHES:
            self.assertIs(Safe(states).shows(CALM, wish), True)
            self.assertIs(Safe(states[::-1] + states).shows(CALM, wish), True)

    def test_a_state_too_few(self):
        for net, wish in ((CALM, "ring"), (LINE, "climb"), (LINE.but("split", "quiet"), "ring"), (RING, "wrong")):
            states = judge(net, wish).states
            self.assertIs(Safe(states).shows(net, wish), True)
            for state in set(states):
                self.assertIs(Safe([other for other in states if other != state]).shows(net, wish), False)
            self.assertIs(Safe([]).shows(net, wish), False)

    def test_all_states_of_a_net_that_breaks_it(self):
        states = all_states(LINE)
        self.assertEqual([Safe(states).shows(LINE, wish) for wish in WISHES], [True, False, False, True])
        states = all_states(FAR)
        self.assertEqual([Safe(states).shows(FAR, wish) for wish in WISHES], [False, False, False, True])

    def test_the_first_state_is_in_it(self):
        alone = (((1, 0, 0), (2, 1, 0)), (True, True))
        self.assertIs(Safe([alone]).shows(CALM, "ring"), False)
        self.assertIs(Safe([*all_states(CALM), alone]).shows(CALM, "ring"), True)

    def test_states_that_do_not_come_about(self):
        states = all_states(CALM)
        # The first one leads to states that come about, the second one is a ring, which breaks nothing else here.
        late = model.closure(CALM, [(((3, 0, 0), (3, 1, 0)), (True, True))])
        self.assertEqual([Safe([*states, *late]).shows(CALM, wish) for wish in WISHES], [True, True, True, True])
        self.assertIs(Safe([*states, (((3, 0, 0), (3, 1, 0)), (True, True))]).shows(CALM, "ring"), False)
        ring = model.closure(CALM, [(((2, 2, 0), (2, 1, 0)), (True, True))])
        self.assertEqual([Safe([*states, *ring]).shows(CALM, wish) for wish in WISHES], [False, True, False, True])

    def test_a_state_that_is_settled_and_wrong(self):
        # No state that comes about is settled and wrong, so that the list has one that does not.
        net = CALM.but("split", "quiet")
        states = all_states(net)
        stuck = (((3, 2, 0), (2, 1, 0)), (False, True))
        self.assertIs(settled(LINE.but("split", "quiet"), stuck), True)
        weak = LINE.but("split", "quiet")
        listed = model.closure(weak, [first_state(weak), stuck])
        self.assertEqual([Safe(sorted(listed, key=str)).shows(weak, wish) for wish in WISHES],
                         [model.is_safe_list(weak, wish, listed) for wish in WISHES])
        self.assertIs(Safe(sorted(listed, key=str)).shows(weak, "wrong"), False)
        self.assertIs(Safe(all_states(weak)).shows(weak, "wrong"), True)
        self.assertIs(Safe(states).shows(net, "wrong"), True)

    def test_misled_asks_for_ties_and_not_for_the_true_distance(self):
        # The true distance of host 3 is the endless one, and yet ties lead from it to the host 0.
        net = Net(4, ((0, 1), (1, 2), (2, 3)), endless=3)
        odd = (((1, 0, 0), (1, 1, 0), (3, None, 0)), (True, True, True))
        self.assertEqual(woven(net, [("tell", 0, 1), ("tell", 1, 2), ("tell", 2, 3)])[-1][0][2], (3, None, 0))
        listed = sorted(model.closure(net, [first_state(net), odd]), key=str)
        self.assertIs(Safe(listed).shows(net, "misled"), True)
        apart = Net(4, ((0, 1), (2, 3)), endless=3)
        odd = (((1, 0, 0), (1, 3, 0), (3, None, 0)), (True, True))
        listed = sorted(model.closure(apart, [first_state(apart), odd]), key=str)
        self.assertIs(Safe(listed).shows(apart, "misled"), False)
        self.assertFalse(model.is_safe_list(apart, "misled", listed))

    def test_against_the_model_for_lists_of_other_nets(self):
        nets = [LINE.but("split", word).but("cry", cry) for word in ("plain", "poison", "quiet")
                for cry in ("loud", "still")]
        for net in nets:
            for other in nets:
                for wish in WISHES:
                    states = all_states(other)
                    self.assertIs(Safe(states).shows(net, wish), model.is_safe_list(net, wish, states))

    def test_more_than_800_states_are_no_matter(self):
        states = list(model.come_about(TOO_LARGE))
        self.assertEqual(len(states), 806)
        self.assertIs(Safe(states).shows(TOO_LARGE, "wrong"), True)
        self.assertIs(Safe(states[1:]).shows(TOO_LARGE, "wrong"), False)

    def test_what_is_no_state_of_the_net(self):
        states = all_states(CALM)
        for state in [(((True, 0, 0), (2, 1, 0)), (True, True)), (((1, False, 0), (2, 1, 0)), (True, True)),
                      (((1, 0, 0), (2, 1, 0)), (1, 1)), (((1, 0, 0), (2, 1, 0)), (False, True)),
                      (((1, 0, 0),), (True, True)), (((4, None, 1), (4, None, 0)), (True, True)), None, 3]:
            with self.subTest(state=state):
                self.assertIs(Safe([*states, state]).shows(CALM, "ring"), False)
                self.assertIs(Safe([state, *states]).shows(CALM, "ring"), False)
        changed = [(entries, tuple([1] * len(stands))) for entries, stands in states]
        self.assertIs(Safe(changed).shows(CALM, "ring"), False)


class BrokenShows(unittest.TestCase):
    def test_each_wish(self):
        self.assertEqual([Broken(RING_WEAVING).shows(LINE, wish) for wish in WISHES], [False, True, True, False])
        self.assertEqual([Broken(CLIMB_WEAVING).shows(FAR, wish) for wish in WISHES], [True, False, True, False])

    def test_longer_weavings(self):
        longer = [("fall", 0), ("come", 0), *RING_WEAVING]
        self.assertIs(Broken(longer).shows(LINE, "ring"), True)
        self.assertIs(Broken(longer).shows(LINE, "misled"), True)

    def test_the_last_deed_breaks_it(self):
        for deed in (("come", 0), ("tell", 1, 2)):
            self.assertIs(Broken([*RING_WEAVING, deed]).shows(FAR, "misled"), False)
            self.assertIs(Broken([*RING_WEAVING, deed]).shows(FAR, "ring"), True)
        self.assertIs(Broken([*RING_WEAVING, ("come", 0), ("tell", 0, 1)]).shows(LINE, "ring"), False)
        self.assertIs(Broken([*CLIMB_WEAVING, ("come", 0)]).shows(FAR, "climb"), False)

    def test_an_empty_one_and_parts_left_out(self):
        for wish in WISHES:
            self.assertIs(Broken([]).shows(LINE, wish), False)
        for at in range(len(RING_WEAVING)):
            part = RING_WEAVING[:at] + RING_WEAVING[at + 1:]
            for wish in WISHES:
                self.assertIs(Broken(part).shows(LINE, wish), False)

    def test_what_cannot_be_done(self):
        for deed in NO_DEEDS:
            with self.subTest(deed=deed):
                self.assertIs(Broken([deed, *RING_WEAVING]).shows(LINE, "ring"), False)
                self.assertIs(Broken([deed]).shows(LINE, "ring"), False)
        for at, deed in enumerate([("tell", False, 1), ("tell", True, 2), ("fall", False), ("tell", 2, True)]):
            changed = RING_WEAVING[:at] + [deed] + RING_WEAVING[at + 1:]
            self.assertEqual(changed, RING_WEAVING)
            self.assertIs(Broken(changed).shows(LINE, "ring"), False)
        self.assertIs(Broken([*RING_WEAVING, ("fall", 0)]).shows(LINE, "ring"), False)
        self.assertIs(Broken(RING_WEAVING).shows(LINE.but("split", "quiet"), "ring"), False)
        self.assertIs(Broken(RING_WEAVING).shows(CALM, "ring"), False)

    def test_more_than_800_states_are_no_matter(self):
        weaving = [("tell", 0, 1), ("tell", 0, 3)]
        self.assertIs(Broken(weaving).shows(TOO_LARGE, "ring"), False)
        self.assertIs(Broken(HELD_WEAVING).shows(HELD, "ring"), True)
        self.assertIs(Broken(HELD_WEAVING[:-1]).shows(HELD, "ring"), False)


class Objects(unittest.TestCase):
    def test_equality(self):
        states = all_states(CALM)
        self.assertTrue(Safe(states) == Safe(list(states)))
        self.assertFalse(Safe(states) != Safe(list(states)))
        self.assertFalse(Safe(states) == Safe(states[1:]))
        self.assertTrue(Safe(states) != Safe(states[::-1]))
        self.assertTrue(Broken(RING_WEAVING) == Broken(list(RING_WEAVING)))
        self.assertFalse(Broken(RING_WEAVING) == Broken(RING_WEAVING[:3]))
        self.assertTrue(Broken(RING_WEAVING) != Broken(RING_WEAVING[:3]))

    def test_nothing_else_is_equal(self):
        for thing in (Safe([]), Broken([])):
            for other in [*ODD, [[]], BadWish("no"), Safe, Broken]:
                self.assertIs(thing == other, False)
                self.assertIs(thing != other, True)
                self.assertIs(other == thing, False)
        self.assertFalse(Safe([]) == Broken([]))
        self.assertTrue(Broken([]) != Safe([]))

    def test_lists_are_copied(self):
        states, weaving = all_states(CALM), list(RING_WEAVING)
        safe, broken = Safe(states), Broken(weaving)
        states.clear()
        weaving.append(("come", 0))
        self.assertEqual(safe, Safe(all_states(CALM)))
        self.assertEqual(broken.weaving, RING_WEAVING)
        self.assertIs(safe.shows(CALM, "ring"), True)
        broken.weaving.clear()
        self.assertEqual(weaving, [*RING_WEAVING, ("come", 0)])

    def test_attributes_are_lists_under_their_names(self):
        self.assertEqual(vars(Safe(states=[])), {"states": []})
        self.assertEqual(vars(Broken(weaving=RING_WEAVING)), {"weaving": RING_WEAVING})

    def test_shows_and_equality_look_at_the_current_attributes(self):
        safe, broken = Safe([]), Broken([])
        safe.states = all_states(CALM)
        broken.weaving.extend(RING_WEAVING)
        self.assertIs(safe.shows(CALM, "ring"), True)
        self.assertIs(broken.shows(LINE, "ring"), True)
        self.assertEqual(broken, Broken(RING_WEAVING))
        safe.states.pop()
        broken.weaving = RING_WEAVING[:3]
        self.assertIs(safe.shows(CALM, "ring"), False)
        self.assertIs(broken.shows(LINE, "ring"), False)
        self.assertNotEqual(safe, Safe(all_states(CALM)))

    def test_shows_changes_nothing(self):
        safe, broken = judge(CALM, "ring"), judge(LINE, "ring")
        states, weaving = list(safe.states), list(broken.weaving)
        safe.shows(CALM, "ring")
        broken.shows(LINE, "ring")
        self.assertEqual((safe.states, broken.weaving), (states, weaving))

    def test_what_is_returned_is_new(self):
        for net, wish in ((CALM, "ring"), (LINE, "ring"), (LINE, "misled")):
            found, again = judge(net, wish), judge(net, wish)
            self.assertIsNot(found, again)
            for name in vars(found):
                self.assertIsNot(getattr(found, name), getattr(again, name))
                getattr(found, name).clear()
            self.assertTrue(again.shows(net, wish))
            self.assertEqual(judge(net, wish), again)
        rows = broken_by(LINE, RING_WEAVING)
        rows[3].clear()
        self.assertIsNot(rows[0], rows[1])
        self.assertEqual(broken_by(LINE, RING_WEAVING)[3], ["misled", "ring"])

    def test_arguments_are_left_as_they_are(self):
        weaving = list(RING_WEAVING)
        broken_by(LINE, weaving)
        self.assertEqual(weaving, RING_WEAVING)
        self.assertEqual(LINE, Net(3, ((0, 1), (1, 2)), weak=(0,)))


class WrongArguments(unittest.TestCase):
    CALLS = (judge, is_safe, soonest, Safe([]).shows, Broken(RING_WEAVING).shows)

    def test_no_net(self):
        for net in NO_NETS:
            for call in self.CALLS:
                for wish in ("ring", "sing", None):
                    with self.subTest(net=net), self.assertRaises(BadNet) as caught:
                        call(net, wish)
                    self.assertIsNone(caught.exception.part)
            for call in (broken_by, settled):
                for other in ([], None, 3):
                    with self.assertRaises(BadNet) as caught:
                        call(net, other)
                    self.assertIsNone(caught.exception.part)

    def test_no_wish(self):
        for wish in NO_WISHES:
            for call in self.CALLS:
                for net in (LINE, TOO_LARGE):
                    with self.subTest(wish=wish), self.assertRaises(BadWish):
                        call(net, wish)

    def test_no_weaving(self):
        for history in (None, "", "ring", b"", {}, 0, True, set(), iter([]), object(), LINE, Broken([])):
            with self.subTest(history=history), self.assertRaises(BadWeaving) as caught:
                broken_by(LINE, history)
            self.assertIsNone(caught.exception.index)
        for deed in NO_DEEDS + ODD + [["tell", 0, 1], ("come", False)]:
            for ahead in ([], [("tell", 0, 1), ("tell", 0, 1)]):
                with self.subTest(deed=deed), self.assertRaises(BadWeaving) as caught:
                    broken_by(LINE, [*ahead, deed, None])
                self.assertEqual(caught.exception.index, len(ahead))

    def test_no_state(self):
        for state in [*ODD, (((True, 0, 0), (2, 1, 0)), (True, True)), (((1, 0, 0), (2, 1, 0)), (1, 1)),
                      (((1, 0, 0), (2, 1, 0)), (True, False)), [((1, 0, 0), (2, 1, 0)), (True, True)],
                      (((1, 0, False), (2, 1, 0)), (True, True)), (((5, None, 0), (2, 1, 0)), (True, True))]:
            with self.subTest(state=state), self.assertRaises(BadState):
                settled(LINE, state)

    def test_a_refused_call_changes_nothing(self):
        broken = Broken(RING_WEAVING)
        for net, wish in ((None, "ring"), (LINE, "sing")):
            with self.assertRaises(judging.BadWish if net else BadNet):
                broken.shows(net, wish)
        self.assertEqual(broken.weaving, RING_WEAVING)
