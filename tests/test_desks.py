"""[12] and desks.py of the interface."""

import random
import unittest

from hearsayways.desks import LiveNet
from hearsayways.errors import BadDeed, BadHost, BadNet, BadWeaving, HearsayError, NothingDone
from hearsayways.nets import Net
from hearsayways.tables import deeds, first_state, woven

from tests import model
from tests.samples import LINE, LONG, NO_DEEDS, NO_HOSTS, NO_NETS, ODD, PAIR, RING, RING_WEAVING, TOO_LARGE

NO_LISTS = [None, True, 0, "", "tell", b"", {}, {("fall", 0): 1}, set(), iter([]), object(), LINE, len]


class Broken(Exception):
    """An error of the test's own."""


def done(net, history):
    """A live net on which these deeds were done."""
    live = LiveNet(net)
    for deed in history:
        live(deed)
    return live


def told(live):
    """All that can be read off a live net."""
    hosts = range(1, len(live.now[0]) + 1)
    return live.now, live.journal, len(live), live.able_now(), [live.way(host) for host in hosts]


def state_behind(net, history):
    """The state to which these deeds lead, told in the words of the document."""
    made = model.Model(net)
    for deed in history:
        made.do(deed)
    return made.state()


def distances(state):
    return [0] + [distance for distance, _, _ in state[0]]


class Examples(unittest.TestCase):
    def test_example(self):
        live = LiveNet(Net(3, ((0, 1), (1, 2)), weak=(0,)))
        rows = [live(deed) for deed in [("tell", 0, 1), ("tell", 1, 2), ("fall", 0), ("tell", 2, 1)]]
        self.assertEqual(
            [rows, live.way(2), live.tried([("come", 0), ("tell", 0, 1)]), live.undo(), live.way(2), live.way(1),
             len(live)],
            [[[0, 1, 4], [0, 1, 2], [0, 4, 2], [0, 3, 2]], [2, 1, 2], [[0, 3, 2], [0, 1, 2]], ("tell", 2, 1), [2, 1],
             [1], 3])

    def test_at_first(self):
        for net in (LINE, PAIR, LONG.but("hold", 2), TOO_LARGE):
            live = LiveNet(net)
            self.assertEqual((live.now, live.journal, len(live)), (first_state(net), [], 0))
            self.assertEqual(live.able_now(), deeds(net, first_state(net)))
            self.assertEqual(live.way(1), [1])
            with self.assertRaises(NothingDone):
                live.undo()

    def test_ways(self):
        live = done(LONG, [("tell", 0, 1), ("tell", 1, 2), ("tell", 2, 3)])
        self.assertEqual([live.way(host) for host in (1, 2, 3)], [[1, 0], [2, 1, 0], [3, 2, 1, 0]])
        live(("fall", 0))
        self.assertEqual([live.way(host) for host in (1, 2, 3)], [[1], [2, 1], [3, 2, 1]])
        live(("tell", 2, 1))
        self.assertEqual([live.way(host) for host in (1, 2, 3)], [[1, 2, 1], [2, 1, 2], [3, 2, 1, 2]])
        ring = Net(4, ((0, 1), (1, 2), (1, 3), (2, 3)), weak=(0, 2), endless=5, split="poison")
        live = done(ring, [("tell", 0, 1), ("tell", 1, 2), ("tell", 2, 3), ("fall", 0), ("tell", 3, 1)])
        self.assertEqual([live.way(host) for host in (1, 2, 3)], [[1, 3, 2, 1], [2, 1, 3, 2], [3, 2, 1, 3]])


class Deeds(unittest.TestCase):
    def test_against_the_model(self):
        nets = [LINE, PAIR, RING.but("split", "poison").but("hold", 2), LONG.but("cry", "loud").but("split", "quiet"),
                TOO_LARGE]
        for at, net in enumerate(nets):
            chance = random.Random(at)
            live, made = LiveNet(net), model.Model(net)
            history = []
            for many in range(60):
                self.assertEqual(live.able_now(), made.deeds())
                deed = chance.choice(made.deeds())
                made.do(deed)
                history.append(deed)
                self.assertEqual(live(deed), distances(made.state()))
                self.assertEqual((live.now, live.journal, len(live)), (made.state(), history, many + 1))
            self.assertEqual(woven(net, history)[-1], live.now)

    def test_deeds_that_cannot_be_done(self):
        for history in ([], RING_WEAVING):
            live = done(LINE, history)
            before = told(live)
            refused = [deed for deed in NO_DEEDS + ODD + [["tell", 0, 1], ("tell", True, 2)]
                       if not isinstance(deed, tuple) or deed not in live.able_now()
                       or any(isinstance(number, bool) for number in deed)]
            self.assertGreater(len(refused), 30)
            for deed in refused:
                with self.subTest(deed=deed), self.assertRaises(BadDeed):
                    live(deed)
                self.assertEqual(told(live), before)
        quiet = done(LINE.but("split", "quiet"), RING_WEAVING[:2])
        with self.assertRaises(BadDeed):
            quiet(("tell", 2, 1))

    def test_undo(self):
        live = LiveNet(LINE)
        rows = [told(live)]
        for deed in RING_WEAVING:
            live(deed)
            rows.append(told(live))
        for deed, row in zip(RING_WEAVING[::-1], rows[-2::-1]):
            self.assertEqual(live.undo(), deed)
            self.assertEqual(told(live), row)
        for _ in range(2):
            with self.assertRaises(NothingDone):
                live.undo()
            self.assertEqual(told(live), rows[0])
        self.assertEqual(live(("fall", 0)), [0, 4, 4])
        self.assertEqual(live.journal, [("fall", 0)])

    def test_undo_and_other_deeds(self):
        for seed in range(20):
            chance = random.Random(seed)
            live, history = LiveNet(RING.but("hold", seed % 3)), []
            for _ in range(80):
                if history and chance.random() < 0.4:
                    self.assertEqual(live.undo(), history.pop())
                else:
                    history.append(chance.choice(live.able_now()))
                    live(history[-1])
                self.assertEqual(live.now, state_behind(RING.but("hold", seed % 3), history))
                self.assertEqual(live.journal, history)

    def test_iteration_is_refused(self):
        with self.assertRaises(TypeError):
            list(done(LINE, RING_WEAVING))


class Branches(unittest.TestCase):
    def test_a_branch_is_independent(self):
        live = done(LINE, RING_WEAVING)
        other = live.branch()
        self.assertIsInstance(other, LiveNet)
        self.assertIsNot(other, live)
        self.assertEqual(told(other), told(live))
        before = told(live)
        other(("come", 0))
        self.assertEqual(told(live), before)
        self.assertEqual(other.journal, [*RING_WEAVING, ("come", 0)])
        for deed in [*RING_WEAVING, ("come", 0)][::-1]:
            self.assertEqual(other.undo(), deed)
        self.assertEqual(told(other), told(LiveNet(LINE)))
        live.undo()
        self.assertEqual(live.journal, RING_WEAVING[:-1])
        self.assertEqual(other.journal, [])

    def test_a_branch_in_a_trial(self):
        live = done(LINE, RING_WEAVING[:2])
        with live.trial():
            live(("fall", 0))
            with live.trial():
                live(("tell", 2, 1))
                other = live.branch()
            self.assertEqual(other.journal, RING_WEAVING)
            for deed in RING_WEAVING[::-1]:
                self.assertEqual(other.undo(), deed)
            with self.assertRaises(NothingDone):
                other.undo()
        other(("fall", 0))
        self.assertEqual((live.journal, other.journal), (RING_WEAVING[:2], [("fall", 0)]))
        self.assertEqual(live.undo(), ("tell", 1, 2))

    def test_trials_of_a_branch_are_its_own(self):
        live = done(LINE, RING_WEAVING[:2])
        with live.trial():
            other = live.branch()
            with other.trial():
                other(("fall", 0))
                live(("tell", 2, 1))
                with self.assertRaises(NothingDone):
                    other.undo()
                    other.undo()
            self.assertEqual(other.journal, RING_WEAVING[:2])
            self.assertEqual(live.journal, [*RING_WEAVING[:2], ("tell", 2, 1)])
        self.assertEqual(live.journal, RING_WEAVING[:2])


class Trials(unittest.TestCase):
    def test_a_trial_gives_the_live_net_and_leaves_it_as_it_was(self):
        live = done(LINE, RING_WEAVING[:2])
        before = told(live)
        with live.trial() as inner:
            self.assertIs(inner, live)
            self.assertEqual(told(live), before)
            self.assertEqual(inner(("fall", 0)), [0, 4, 2])
            self.assertEqual(live.journal, RING_WEAVING[:3])
        self.assertEqual(told(live), before)
        self.assertEqual(live.undo(), ("tell", 1, 2))

    def test_a_trial_begins_where_it_is_entered(self):
        live = LiveNet(LINE)
        trial = live.trial()
        live(("tell", 0, 1))
        with trial:
            live(("tell", 1, 2))
        self.assertEqual(live.journal, [("tell", 0, 1)])
        self.assertEqual(live.undo(), ("tell", 0, 1))

    def test_one_that_is_not_entered_does_nothing(self):
        live = done(LINE, RING_WEAVING[:2])
        live.trial()
        self.assertEqual(live.undo(), ("tell", 1, 2))
        self.assertEqual(live.undo(), ("tell", 0, 1))

    def test_left_by_errors(self):
        live = done(LINE, RING_WEAVING[:2])
        before = told(live)
        for error in (Broken("mine"), BadDeed("theirs"), KeyError(3), KeyboardInterrupt(), NothingDone("none")):
            with self.assertRaises(type(error)) as caught, live.trial():
                live(("fall", 0))
                raise error
            self.assertIs(caught.exception, error)
            self.assertEqual(told(live), before)
        with self.assertRaises(BadDeed), live.trial():
            live(("fall", 0))
            live(("fall", 0))
        self.assertEqual(told(live), before)

    def test_left_by_return_break_and_continue(self):
        live = done(LINE, RING_WEAVING[:2])
        before = told(live)

        def returned():
            with live.trial():
                live(("fall", 0))
                return len(live)

        self.assertEqual(returned(), 3)
        self.assertEqual(told(live), before)
        for word in ("break", "continue"):
            for _ in range(2):
                with live.trial():
                    live(("fall", 0))
                    if word == "break":
                        break
                    continue
            self.assertEqual(told(live), before)

    def test_within_one_another(self):
        live = done(LINE, RING_WEAVING[:1])
        rows = []
        with live.trial():
            rows.append(told(live))
            live(RING_WEAVING[1])
            rows.append(told(live))
            with live.trial() as inner:
                self.assertIs(inner, live)
                live(RING_WEAVING[2])
                rows.append(told(live))
                with self.assertRaises(Broken), live.trial():
                    live(RING_WEAVING[3])
                    raise Broken
                self.assertEqual(told(live), rows[2])
                self.assertEqual(live.undo(), RING_WEAVING[2])
                with self.assertRaises(NothingDone):
                    live.undo()
            self.assertEqual(told(live), rows[1])
            self.assertEqual(live.undo(), RING_WEAVING[1])
            with self.assertRaises(NothingDone):
                live.undo()
            self.assertEqual(told(live), rows[0])
        self.assertEqual(told(live), rows[0])
        self.assertEqual(live.undo(), RING_WEAVING[0])

    def test_one_error_through_several_trials(self):
        live = done(LINE, RING_WEAVING[:1])
        before = told(live)
        with self.assertRaises(Broken):
            with live.trial():
                live(RING_WEAVING[1])
                with live.trial(), live.trial():
                    live(RING_WEAVING[2])
                    raise Broken
        self.assertEqual(told(live), before)
        live.undo()
        self.assertEqual(len(live), 0)

    def test_one_behind_the_other(self):
        live = LiveNet(LINE)
        for many in range(3):
            with live.trial():
                live(("fall", 0))
                live.undo()
                live(("tell", 0, 1))
            live(("tell", 0, 1))
            self.assertEqual(len(live), many + 1)
        trial = live.trial()
        for _ in range(2):
            with trial:
                live(("fall", 0))
            self.assertEqual(live.journal, [("tell", 0, 1)] * 3)

    def test_undo_of_what_was_done_before(self):
        live = done(LINE, RING_WEAVING[:2])
        with live.trial():
            with self.assertRaises(NothingDone):
                live.undo()
            self.assertEqual(live.journal, RING_WEAVING[:2])
            live(("fall", 0))
            self.assertEqual(live.undo(), ("fall", 0))
            with self.assertRaises(NothingDone):
                live.undo()
        self.assertEqual([live.undo(), live.undo()], RING_WEAVING[1::-1])

    def test_against_lists_of_the_tests_own(self):
        for seed in range(30):
            chance = random.Random(seed)
            net = (LINE, RING.but("cry", "loud"), LONG.but("hold", 1))[seed % 3]
            live, history = LiveNet(net), []
            self.play(chance, net, live, history, 0, 0)
            self.assertEqual(live.journal, history)

    def play(self, chance, net, live, history, kept, depth):
        """Deeds, undoing and trials by chance, which the list of deeds follows; the first ones cannot be undone."""
        for _ in range(12):
            step = chance.random()
            if step < 0.2 and depth < 4:
                inner = list(history)
                if chance.random() < 0.5:
                    with self.assertRaises(Broken), live.trial():
                        self.play(chance, net, live, inner, len(history), depth + 1)
                        raise Broken
                else:
                    with live.trial():
                        self.play(chance, net, live, inner, len(history), depth + 1)
            elif step < 0.5 and len(history) == kept:
                with self.assertRaises(NothingDone):
                    live.undo()
            elif step < 0.5:
                self.assertEqual(live.undo(), history.pop())
            else:
                history.append(chance.choice(live.able_now()))
                live(history[-1])
            self.assertEqual((live.journal, live.now, len(live)),
                             (history, state_behind(net, history), len(history)))


class Attempts(unittest.TestCase):
    def test_what_is_returned(self):
        live = done(LINE, RING_WEAVING[:2])
        before = told(live)
        given = []

        def work(inner):
            given.append(inner)
            inner(("fall", 0))
            return inner.journal

        self.assertEqual(live.attempt(work), RING_WEAVING[:3])
        self.assertIs(given[0], live)
        self.assertEqual(told(live), before)
        for thing in (None, 0, [], given):
            self.assertIs(live.attempt(lambda inner, thing=thing: thing), thing)

    def test_errors_are_passed_on(self):
        live = done(LINE, RING_WEAVING[:2])
        before = told(live)

        def work(inner):
            inner(("fall", 0))
            inner.undo()
            inner.undo()

        with self.assertRaises(NothingDone):
            live.attempt(work)
        self.assertEqual(told(live), before)

    def test_within_one_another(self):
        live = done(LINE, RING_WEAVING[:2])

        def work(inner):
            inner(("fall", 0))
            return inner.attempt(lambda again: again(("tell", 2, 1))), inner.journal

        self.assertEqual(live.attempt(work), ([0, 3, 2], RING_WEAVING[:3]))
        self.assertEqual(live.journal, RING_WEAVING[:2])


class Tried(unittest.TestCase):
    def test_distances_behind_each(self):
        for net in (LINE, LINE.but("hold", 1), LINE.but("cry", "loud")):
            live = done(net, RING_WEAVING[:1])
            before = told(live)
            states = woven(net, RING_WEAVING)
            for history in (RING_WEAVING[1:], tuple(RING_WEAVING[1:])):
                self.assertEqual(live.tried(history), [distances(state) for state in states[1:]])
                self.assertEqual(told(live), before)
        self.assertEqual((live.tried([]), live.tried(())), ([], []))

    def test_a_history_that_is_wrong(self):
        live = done(LINE, RING_WEAVING[:1])
        before = told(live)
        for at in range(3):
            for deed in (None, ("come", 1), ("tell", 1, 0), ["tell", 1, 2], ("fall", False), ("tell", True, 2)):
                history = RING_WEAVING[1:1 + at] + [deed] + RING_WEAVING[2 + at:]
                with self.subTest(history=history), self.assertRaises(BadWeaving) as caught:
                    live.tried(history)
                self.assertEqual(caught.exception.index, at)
                self.assertEqual(told(live), before)
        with self.assertRaises(BadWeaving) as caught:
            live.tried(RING_WEAVING[2:] + RING_WEAVING[2:] + [None])
        self.assertEqual(caught.exception.index, 2)

    def test_what_is_no_list_or_tuple(self):
        live = done(LINE, RING_WEAVING[:1])
        before = told(live)
        for history in NO_LISTS:
            with self.subTest(history=history), self.assertRaises(BadWeaving) as caught:
                live.tried(history)
            self.assertIsNone(caught.exception.index)
            self.assertEqual(told(live), before)

    def test_in_a_trial(self):
        live = done(LINE, RING_WEAVING[:1])
        with live.trial():
            live(RING_WEAVING[1])
            self.assertEqual(live.tried(RING_WEAVING[2:]), [[0, 4, 2], [0, 3, 2]])
            with self.assertRaises(BadWeaving):
                live.tried([None])
            self.assertEqual(live.undo(), RING_WEAVING[1])
        self.assertEqual(live.journal, RING_WEAVING[:1])


class NewAndUnchanged(unittest.TestCase):
    def test_what_is_returned_is_new(self):
        live = done(LINE, RING_WEAVING)
        for call in (lambda: live.journal, live.able_now, lambda: live.way(2), lambda: live.tried([("come", 0)])):
            kept = list(call())
            call().clear()
            self.assertEqual(call(), kept)
            self.assertIsNot(call(), call())
        row = live.tried([("come", 0)])
        row[0].clear()
        self.assertEqual(live.tried([("come", 0)]), [[0, 3, 2]])
        row = live(("come", 0))
        row.clear()
        self.assertEqual(live.tried([("fall", 0)]), [[0, 3, 2]])
        with live.trial():
            live.journal.clear()
            self.assertEqual(len(live.journal), 5)

    def test_arguments_are_left_as_they_are(self):
        history = list(RING_WEAVING)
        live = LiveNet(LINE)
        live.tried(history)
        self.assertEqual(history, RING_WEAVING)
        history.clear()
        self.assertEqual(live.journal, [])
        self.assertEqual(LINE, Net(3, ((0, 1), (1, 2)), weak=(0,)))

    def test_properties_cannot_be_set(self):
        live = done(LINE, RING_WEAVING)
        for name in ("now", "journal"):
            with self.assertRaises(AttributeError):
                setattr(live, name, None)
        self.assertIsInstance(vars(LiveNet)["now"], property)
        self.assertIsInstance(vars(LiveNet)["journal"], property)


class WrongArguments(unittest.TestCase):
    def test_no_net(self):
        for net in NO_NETS:
            with self.subTest(net=net), self.assertRaises(BadNet) as caught:
                LiveNet(net)
            self.assertIsNone(caught.exception.part)

    def test_no_host(self):
        for history in ([], RING_WEAVING):
            live = done(LINE, history)
            for host in NO_HOSTS:
                with self.subTest(host=host), self.assertRaises(BadHost):
                    live.way(host)
        with self.assertRaises(BadHost):
            LiveNet(PAIR).way(2)
        self.assertEqual(LiveNet(LONG).way(3), [3])

    def test_a_refused_call_changes_nothing(self):
        live = done(LINE, RING_WEAVING)
        with live.trial():
            before = told(live)
            for call in (live.undo, lambda: live(None), lambda: live.way(0), lambda: live.tried(None),
                         lambda: live.tried([("come", 0), None])):
                with self.assertRaises(HearsayError):
                    call()
                self.assertEqual(told(live), before)
        self.assertEqual(told(live), before)
