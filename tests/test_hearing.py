"""[11] and hearing.py of the interface."""

import unittest
from itertools import product

from hearsayways.errors import BadHost, BadLog, BadNet, TooLarge
from hearsayways.hearing import Ends, ends, next_heard, standing
from hearsayways.nets import Net
from hearsayways.tables import all_states, first_state

from tests import model
from tests.samples import (
    LARGE, LINE, LONG, NO_DEEDS, NO_HOSTS, NO_NETS, ODD, PAIR, RING, RING_WEAVING, TOO_LARGE, varied_nets)

CALM, QUIET, POISON = LINE.with_weak(()), LINE.but("split", "quiet"), LINE.but("split", "poison")
KNOWN = [("tell", 0, 1), ("tell", 1, 2)]
BOTH = (((1, 0, 0), (2, 1, 0)), (True, True))
NO_LISTS = [None, True, 0, "", "log", b"", {}, {(1, 1): 0}, set(), iter([]), object(), LINE, len]
NO_PAIRS = [
    *ODD, (1,), (1, 1, 1), [1, 1], (-1, 1), (3, 1), (1, -1), (1, 5), (1, 10 ** 30), (True, 1), (1, True), (False, 0),
    (0, False), (1, None), (None, 1), ("1", 1), (1, "1"), (1, (1,)), ((1,), 1), (1, [1]), "11", ("tell", 1),
]


def told_pair(net, state, deed):
    """The pair that the hearer of a `tell` writes down, told in the words of the document."""
    _, teller, hearer = deed
    if teller == 0:
        return 0, 0
    distance, way, _ = state[0][teller - 1]
    return teller, net.endless if net.split == "poison" and way == hearer else distance


def hears(deed, host):
    return deed[0] == "tell" and deed[2] == host


def walk(account, host, log):
    """All states behind weavings that fit the log, and the pairs that can be heard next."""
    places = {(model.Model(account.net).state(), 0)}
    fresh, exact, ahead = list(places), set(), set()
    if not log:
        exact = {state for state, _ in places}
    while fresh:
        state, many = fresh.pop()
        for deed, later in account.steps[state].items():
            place = (later, many)
            if hears(deed, host):
                pair = told_pair(account.net, state, deed)
                if many == len(log) or pair != log[many]:
                    continue
                place = (later, many + 1)
                if many + 1 == len(log):
                    exact.add(later)
            if place not in places:
                places.add(place)
                fresh.append(place)
    for state, many in places:
        if many == len(log):
            ahead |= {told_pair(account.net, state, deed) for deed in account.steps[state] if hears(deed, host)}
    return exact, sorted(ahead)


def fits(net, host, log, weaving, end):
    """Whether these deeds are a weaving that fits the log, told in the words of the document."""
    told, heard = model.Model(net), []
    for deed in weaving:
        if deed not in told.deeds():
            return False
        if hears(deed, host):
            heard.append(told_pair(net, told.state(), deed))
        told.do(deed)
    last = hears(weaving[-1], host) if len(weaving) else True
    return told.state() == end and last and heard == list(log)


def are_layers(net, host, log, found, layers):
    """Whether these layers are as in an Ends with these ends, told in the words of the document."""
    if len(layers) != len(log) or (layers and model.Model(net).state() not in layers[0]):
        return False
    for at, layer in enumerate(layers):
        later_states = layers[at + 1] if at + 1 < len(layers) else list(found)
        for state in layer:
            for deed in model.Model(net, state).deeds():
                later = model.behind(net, state, deed)
                if not hears(deed, host) and later not in layer:
                    return False
                if hears(deed, host) and told_pair(net, state, deed) == log[at] and later not in later_states:
                    return False
    return True


class Examples(unittest.TestCase):
    def test_example(self):
        net = Net(3, ((0, 1), (1, 2)), weak=(0,))
        found = [standing(net, 2, log) for log in ([], [(1, 1)], [(1, 1), (1, 4)], [(1, 2)])]
        self.assertEqual(
            [found, next_heard(net, 2, []), next_heard(net, 2, [(1, 1)]), len(ends(net, 2, [(1, 1)]).ends)],
            [[["surely", "surely"], ["surely", "surely"], ["perhaps", "surely"], None], [(1, 1), (1, 4)],
             [(1, 1), (1, 3), (1, 4)], 1])

    def test_an_empty_log(self):
        for net in (LINE, PAIR, RING.but("hold", 2), Net(4, ((2, 3),), endless=2)):
            for log in ([], ()):
                found = ends(net, 1, log)
                self.assertEqual(found, Ends({first_state(net): ()}, []))
                self.assertIs(found.shows(net, 1, log), True)
                self.assertEqual(standing(net, 1, log), ["surely"] * len(net.ties))
        self.assertEqual(next_heard(Net(4, ((2, 3),)), 1, []), [])
        self.assertEqual(next_heard(PAIR, 1, []), [(0, 0)])

    def test_six_pairs(self):
        log = [(0, 0)] * 6
        found = ends(PAIR, 1, log)
        self.assertEqual(list(found.ends), [(((1, 0, 0),), (True,))])
        self.assertEqual([len(layer) for layer in found.layers], [2, 3, 3, 3, 3, 3])
        self.assertEqual((standing(PAIR, 1, log), next_heard(PAIR, 1, tuple(log))), (["surely"], [(0, 0)]))
        # Six pairs are needed to count up in a ring as far as this, when a way is endless only at 5.
        far = LINE.but("endless", 5)
        log = [(0, 0), (2, 2), (2, 2), (2, 4), (2, 5), (2, 5)]
        self.assertEqual(standing(far, 1, log), ["perhaps", "surely"])
        self.assertIsNone(standing(LINE, 1, [(0, 0), (2, 2), (2, 2), (2, 4), (2, 3)]))

    def test_pairs_that_nobody_tells(self):
        for log in ([(2, 2)], [(0, 0)], [(0, 3)], [(1, 0)], [(1, 1), (0, 0)], [(1, 4), (1, 2)]):
            found = ends(LINE, 2, log)
            self.assertEqual(found.ends, {})
            self.assertEqual(len(found.layers), len(log))
            self.assertIs(found.shows(LINE, 2, log), True)
            self.assertIsNone(standing(LINE, 2, log))
            self.assertEqual(next_heard(LINE, 2, log), [])

    def test_poison_is_heard_as_endless(self):
        self.assertEqual(next_heard(LINE, 1, [(0, 0)]), [(0, 0), (2, 2), (2, 4)])
        self.assertEqual(next_heard(POISON, 1, [(0, 0)]), [(0, 0), (2, 4)])
        self.assertEqual(next_heard(QUIET, 1, [(0, 0)]), [(0, 0), (2, 4)])
        self.assertIsNone(standing(POISON, 1, [(0, 0), (2, 2)]))

    def test_what_changes_nothing_is_heard_all_the_same(self):
        self.assertEqual(list(ends(CALM, 2, [(1, 4)]).ends), [first_state(CALM)])
        self.assertEqual(list(ends(CALM, 2, [(1, 1), (1, 1)]).ends), [BOTH])
        self.assertIsNone(standing(CALM, 2, [(1, 1), (1, 4)]))

    def test_ties_that_surely_stand(self):
        # What is heard comes over a tie that stands; and host 2 itself knows whether its tie to the place does.
        self.assertEqual(standing(RING, 1, [(0, 0)]), ["surely", "perhaps", "perhaps"])
        self.assertEqual(standing(RING, 1, [(2, 1)]), ["perhaps", "surely", "surely"])
        self.assertEqual(standing(RING, 1, [(2, 4)]), ["perhaps", "perhaps", "surely"])
        self.assertEqual(standing(RING.with_weak((1,)), 1, [(0, 0)]), ["surely", "perhaps", "surely"])
        self.assertEqual(standing(RING.with_weak(()), 1, [(0, 0)]), ["surely", "surely", "surely"])


class AgainstAWalk(unittest.TestCase):
    def check(self, net, account, host, log):
        exact, ahead = walk(account, host, log)
        found = ends(net, host, log)
        self.assertEqual(set(found.ends), exact)
        self.assertEqual(next_heard(net, host, log), ahead)
        words = [["perhaps", "surely"][all(stands[tie] for _, stands in exact)] for tie in range(len(net.ties))]
        self.assertEqual(standing(net, host, log), words if exact else None)
        for state, weaving in found.ends.items():
            self.assertIsInstance(weaving, tuple)
            self.assertTrue(fits(net, host, log, weaving, state))
        self.assertEqual(len(found.layers), len(log))
        self.assertIs(found.shows(net, host, log), True)
        return ahead

    def test_varied_nets(self):
        for at, net in enumerate(varied_nets()):
            account = model.Account(net)
            host = 1 + at % (net.hosts - 1)
            with self.subTest(net=vars(net), host=host):
                if len(account.steps) > 800:
                    for call in (ends, standing, next_heard):
                        for log in ([], [(0, 0)]):
                            with self.assertRaises(TooLarge):
                                call(net, host, log)
                    continue
                log = []
                # A log that one pair after the other is put to, now of the first that can be heard, now of the last.
                for many in range(at % 7):
                    ahead = self.check(net, account, host, log)
                    log = log + [ahead[0] if (at + many) % 3 else ahead[-1]] if ahead else log
                self.check(net, account, host, log)

    def test_all_short_logs(self):
        for net in (LINE, POISON, LINE.but("cry", "loud").but("hold", 1)):
            account = model.Account(net)
            pairs = list(product(range(3), range(5)))
            for host in (1, 2):
                for log in [[pair] for pair in pairs] + [list(row) for row in product(pairs[::2], pairs[1::2])]:
                    self.check(net, account, host, log)

    def test_layers_are_closed(self):
        for net, host, log in ((LINE, 2, [(1, 1), (1, 4)]), (RING, 1, [(0, 0), (2, 2), (2, 1)]), (LINE, 1, [(2, 3)])):
            found = ends(net, host, log)
            self.assertTrue(are_layers(net, host, log, found.ends, found.layers))

    def test_up_to_800_states(self):
        for log in ([], [(0, 0)], [(1, 1), (1, 4)]):
            self.assertIs(ends(LARGE, 2, log).shows(LARGE, 2, log), True)

    def test_more_than_800_states(self):
        for call in (ends, standing, next_heard):
            for log in ([], [(0, 0)], [(2, 2)]):
                with self.assertRaises(TooLarge):
                    call(TOO_LARGE, 1, log)


class Shows(unittest.TestCase):
    def setUp(self):
        self.log = [(1, 1), (1, 4)]
        self.found = ends(LINE, 2, self.log)
        self.assertGreater(len(self.found.ends), 1)

    def shows(self, found=None, layers=None, net=LINE, host=2, log=None):
        made = Ends(self.found.ends if found is None else found, self.found.layers if layers is None else layers)
        return made.shows(net, host, self.log if log is None else log)

    def test_as_it_is_told_and_in_another_order(self):
        self.assertIs(self.shows(), True)
        self.assertIs(self.shows(log=tuple(self.log)), True)
        self.assertIs(self.shows(found=dict(reversed(list(self.found.ends.items())))), True)
        self.assertIs(self.shows(layers=[layer[::-1] * 2 for layer in self.found.layers]), True)
        for state, weaving in self.found.ends.items():
            longer = [("fall", 0), ("come", 0), *weaving]
            self.assertIs(self.shows(found={**self.found.ends, state: longer}), True)

    def test_a_weaving_that_does_not_fit(self):
        for state, weaving in self.found.ends.items():
            wrong = [(), weaving[:-1], weaving[1:], (*weaving, ("come", 0)), (*weaving, ("fall", 0)),
                     (*weaving, ("tell", 2, 1)), (*weaving, ("tell", 1, 2)), (("tell", 1, 2), *weaving),
                     tuple(RING_WEAVING)]
            for deeds in wrong:
                with self.subTest(deeds=deeds):
                    self.assertIs(self.shows(found={**self.found.ends, state: deeds}), False)
            for other, deeds in self.found.ends.items():
                self.assertIs(self.shows(found={**self.found.ends, state: deeds}), state == other)

    def test_the_last_deed_is_the_last_one_heard(self):
        found = ends(CALM, 2, [(1, 1)])
        self.assertEqual(found.ends, {BOTH: tuple(KNOWN)})
        for more in (("tell", 0, 1), ("tell", 2, 1)):
            self.assertIs(Ends({BOTH: [*KNOWN, more]}, found.layers).shows(CALM, 2, [(1, 1)]), False)
        self.assertIs(Ends({BOTH: [KNOWN[0], ("tell", 0, 1), KNOWN[1]]}, found.layers).shows(CALM, 2, [(1, 1)]), True)

    def test_no_others_are_heard(self):
        found = ends(CALM, 2, [(1, 1)])
        self.assertIs(Ends({BOTH: [("tell", 1, 2), *KNOWN]}, found.layers).shows(CALM, 2, [(1, 1)]), False)
        self.assertIs(Ends({BOTH: [*KNOWN, KNOWN[1]]}, found.layers).shows(CALM, 2, [(1, 1)]), False)
        # What the others hear is no matter.
        self.assertIs(Ends({BOTH: [("tell", 2, 1), *KNOWN]}, found.layers).shows(CALM, 2, [(1, 1)]), True)

    def test_an_empty_log(self):
        first = first_state(LINE)
        self.assertIs(Ends({first: []}, []).shows(LINE, 2, []), True)
        for found, layers in (({}, []), ({first: [("tell", 2, 1)]}, []), ({first: ()}, [[]]), ({first: ()}, [[first]]),
                              ({BOTH: KNOWN}, []), ({first: (), BOTH: KNOWN}, []), ({first: [("tell", 1, 2)]}, [])):
            self.assertIs(Ends(found, layers).shows(LINE, 2, []), False)

    def test_a_weaving_that_cannot_be_done(self):
        for deed in NO_DEEDS:
            for state, weaving in self.found.ends.items():
                with self.subTest(deed=deed):
                    self.assertIs(self.shows(found={**self.found.ends, state: [deed, *weaving]}), False)
                    self.assertIs(self.shows(found={**self.found.ends, state: [deed]}), False)
        state, weaving = next(iter(self.found.ends.items()))
        self.assertIs(self.shows(found={**self.found.ends, state: [("tell", False, 1), *weaving[1:]]}), False)

    def test_an_end_too_few(self):
        for state in self.found.ends:
            part = {other: self.found.ends[other] for other in self.found.ends if other != state}
            self.assertIs(self.shows(found=part), False)
        self.assertIs(self.shows(found={}), False)

    def test_an_end_too_many(self):
        for state in all_states(LINE):
            if state not in self.found.ends:
                for weaving in [(), KNOWN, *self.found.ends.values()]:
                    self.assertIs(self.shows(found={**self.found.ends, state: weaving}), False)
        for state in ((((3, 0, 0), (3, 1, 0)), (True, True)), None, 3):
            self.assertIs(self.shows(found={**self.found.ends, state: ()}), False)

    def test_keys_that_are_no_states(self):
        found = ends(CALM, 2, [(1, 1)])
        for key in ((((True, 0, 0), (2, 1, 0)), (True, True)), (((1, 0, 0), (2, 1, 0)), (1, 1))):
            self.assertEqual(key, BOTH)
            self.assertIs(Ends({key: KNOWN}, found.layers).shows(CALM, 2, [(1, 1)]), False)

    def test_a_layer_too_few_or_too_many(self):
        first, second = self.found.layers
        for layers in ([], [first], [second], [first, second, second], [first, second, []], [[], first, second],
                       [second, first], [first, first], [second, second], [first, []], [[], second]):
            self.assertIs(self.shows(layers=layers), are_layers(LINE, 2, self.log, self.found.ends, layers))
        for layers in ([], [first], [first, second, []], [[], second], [second, first]):
            self.assertIs(self.shows(layers=layers), False)

    def test_a_state_that_is_missing_in_a_layer(self):
        for at, layer in enumerate(self.found.layers):
            for state in layer:
                part = [other for other in layer if other != state]
                layers = self.found.layers[:at] + [part] + self.found.layers[at + 1:]
                self.assertIs(self.shows(layers=layers), False)

    def test_states_that_do_not_come_about(self):
        odd = (((3, 0, 0), (3, 1, 0)), (True, True))
        more = sorted(model.closure(LINE, [odd]), key=str)
        first, second = self.found.layers
        # Host 1 can tell more here than it can by any weaving, but not the distance that host 2 heard last.
        cases = [[first, second + more], [first + more, second + more], [first + more, second], [first, [*second, odd]],
                 [[*first, odd], second]]
        told = [self.shows(layers=layers) for layers in cases]
        self.assertEqual(told, [are_layers(LINE, 2, self.log, self.found.ends, layers) for layers in cases])
        calm = ends(CALM, 2, [(1, 1)])
        late = (((1, 0, 0), (3, 1, 0)), (True, True))
        for layers, expected in (([[*calm.layers[0], late]], True), ([[late]], False),
                                 ([[*calm.layers[0], (((2, 0, 0), (3, 1, 0)), (True, True))]], False)):
            self.assertIs(Ends(calm.ends, layers).shows(CALM, 2, [(1, 1)]), expected)
            self.assertIs(are_layers(CALM, 2, [(1, 1)], calm.ends, layers), expected)

    def test_what_is_no_state_in_a_layer(self):
        for state in ((((True, 0, 0), (2, 1, 0)), (True, True)), (((1, 0, 0), (2, 1, 0)), (1, 1)), None, 3,
                      (((1, 0, 0), (2, 1, 0)), (False, True))):
            for at in (0, 1):
                layers = [list(layer) for layer in self.found.layers]
                layers[at].append(state)
                self.assertIs(self.shows(layers=layers), False)

    def test_another_net_host_or_log(self):
        for net in (CALM, RING, LINE.but("endless", 5), LINE.but("hold", 1)):
            self.assertIs(self.shows(net=net), False)
        self.assertIs(self.shows(host=1), False)
        for log in ([], [(1, 1)], [(1, 4), (1, 1)], [(1, 1), (1, 4), (1, 4)], [(1, 1), (1, 3)], [(0, 1), (1, 4)]):
            self.assertIs(self.shows(log=log), False)

    def test_parts_of_other_logs_against_the_words_of_the_document(self):
        logs = [[], [(1, 1)], [(1, 4)], [(1, 1), (1, 4)], [(1, 1), (1, 3)], [(1, 4), (1, 1)], [(1, 2)], [(0, 0)]]
        told = [ends(net, host, log) for net in (LINE, CALM, QUIET) for host in (1, 2) for log in logs]
        for net in (LINE, QUIET, POISON):
            for log in logs:
                for at, one in enumerate(told):
                    for other in (one, told[at - 1], told[at - 8], told[at - 16]):
                        listed = [*one.ends, *[state for layer in other.layers for state in layer]]
                        expected = (all(model.is_state(net, state) for state in listed)
                                    and all(fits(net, 2, log, one.ends[state], state) for state in one.ends)
                                    and (len(log) > 0 or len(one.ends) > 0)
                                    and are_layers(net, 2, log, one.ends, other.layers))
                        self.assertIs(Ends(one.ends, other.layers).shows(net, 2, log), expected)

    def test_more_than_800_states_are_no_matter(self):
        first = first_state(TOO_LARGE)
        self.assertIs(Ends({first: ()}, []).shows(TOO_LARGE, 1, []), True)
        states = list(model.come_about(TOO_LARGE))
        # Host 3 never hears from itself, so that nothing fits.
        self.assertIs(Ends({}, [states]).shows(TOO_LARGE, 3, [(3, 1)]), True)
        self.assertIs(Ends({}, [states[1:]]).shows(TOO_LARGE, 3, [(3, 1)]), False)


class Objects(unittest.TestCase):
    def test_equality(self):
        found = ends(LINE, 2, [(1, 1), (1, 4)])
        turned = {state: list(weaving) for state, weaving in reversed(list(found.ends.items()))}
        self.assertTrue(found == Ends(turned, found.layers))
        self.assertFalse(found != Ends(turned, found.layers))
        for other in (Ends({}, found.layers), Ends(found.ends, []), Ends(found.ends, found.layers[::-1]),
                      Ends(found.ends, [found.layers[0], found.layers[1][1:]])):
            self.assertFalse(found == other)
            self.assertTrue(found != other)

    def test_nothing_else_is_equal(self):
        found = Ends({}, [])
        for other in [*ODD, [{}, []], ({}, []), Ends]:
            self.assertIs(found == other, False)
            self.assertIs(found != other, True)
            self.assertIs(other == found, False)

    def test_parts_are_copied_and_weavings_are_tuples(self):
        weaving, layer = list(KNOWN), [BOTH]
        given, layers = {BOTH: weaving}, [layer, []]
        found = Ends(ends=given, layers=layers)
        weaving.clear()
        layer.clear()
        layers.clear()
        given.clear()
        self.assertEqual(vars(found), {"ends": {BOTH: tuple(KNOWN)}, "layers": [[BOTH], []]})
        self.assertIsInstance(found.ends[BOTH], tuple)
        found.layers[0].append(None)
        found.layers.clear()
        found.ends.clear()
        self.assertEqual((weaving, layer, given, layers), ([], [], {}, []))

    def test_shows_and_equality_look_at_the_current_attributes(self):
        found, kept = Ends({}, []), ends(LINE, 2, [(1, 1)])
        found.ends = dict(kept.ends)
        self.assertIs(found.shows(LINE, 2, [(1, 1)]), False)
        found.layers.extend(kept.layers)
        self.assertIs(found.shows(LINE, 2, [(1, 1)]), True)
        self.assertEqual(found, kept)
        found.ends = {state: list(weaving) for state, weaving in kept.ends.items()}
        self.assertIs(found.shows(LINE, 2, [(1, 1)]), True)
        found.layers[0].pop()
        self.assertIs(found.shows(LINE, 2, [(1, 1)]), False)

    def test_what_is_returned_is_new(self):
        log = [(1, 1), (1, 4)]
        found, again = ends(LINE, 2, log), ends(LINE, 2, log)
        self.assertEqual(found, again)
        found.layers[0].clear()
        found.layers.pop()
        found.ends.clear()
        self.assertIs(again.shows(LINE, 2, log), True)
        self.assertEqual(ends(LINE, 2, log), again)
        for call in (standing, next_heard):
            told = call(LINE, 2, log)
            told.clear()
            self.assertNotEqual(call(LINE, 2, log), [])

    def test_arguments_are_left_as_they_are(self):
        log = [(1, 1), (1, 4)]
        found, kept = ends(LINE, 2, log), ends(LINE, 2, log)
        found.shows(LINE, 2, log)
        found.shows(RING, 1, log)
        standing(LINE, 2, log)
        next_heard(LINE, 2, log)
        self.assertEqual(log, [(1, 1), (1, 4)])
        self.assertEqual(found, kept)
        self.assertEqual(list(found.ends), list(kept.ends))
        self.assertEqual(LINE, Net(3, ((0, 1), (1, 2)), weak=(0,)))


class WrongArguments(unittest.TestCase):
    CALLS = (ends, standing, next_heard, Ends({}, []).shows, Ends({BOTH: KNOWN}, [[BOTH]]).shows)

    def refuse(self, error, index, *arguments):
        for call in self.CALLS:
            with self.subTest(arguments=arguments), self.assertRaises(error) as caught:
                call(*arguments)
            self.assertIs(type(caught.exception), error)
            self.assertEqual(getattr(caught.exception, "index", None), index)
            self.assertIsNone(getattr(caught.exception, "part", None))

    def test_no_net(self):
        for net in NO_NETS:
            for host, log in ((1, []), (0, []), (1, None), (None, [None])):
                self.refuse(BadNet, None, net, host, log)

    def test_no_host(self):
        for host in NO_HOSTS:
            for log in ([], None, [None]):
                self.refuse(BadHost, None, LINE, host, log)
        self.refuse(BadHost, None, TOO_LARGE, 4, [])
        self.refuse(BadHost, None, PAIR, 2, [(5, 5)])

    def test_no_log(self):
        for log in NO_LISTS:
            for net in (LINE, TOO_LARGE):
                self.refuse(BadLog, None, net, 1, log)

    def test_seven_pairs(self):
        for log in ([(0, 0)] * 7, ((0, 0),) * 7, [None] * 7, [(0, 0)] * 100):
            self.refuse(BadLog, None, LINE, 1, log)
            self.refuse(BadLog, None, TOO_LARGE, 1, log)

    def test_no_pair(self):
        for pair in NO_PAIRS:
            for ahead in ([], [(0, 0), (2, 4)], [(1, 4)] * 5):
                self.refuse(BadLog, len(ahead), LINE, 2, [*ahead, pair])
                self.refuse(BadLog, len(ahead), LINE, 2, (*ahead, pair))
            self.refuse(BadLog, 1, LINE, 2, [(0, 0), pair, None])

    def test_bounds_of_pairs(self):
        self.refuse(BadLog, 0, PAIR, 1, [(2, 0)])
        self.refuse(BadLog, 0, TOO_LARGE, 1, [(4, 0)])
        self.refuse(BadLog, 0, LINE.but("endless", 2), 1, [(2, 3)])
        for net, pair in ((LINE, (2, 4)), (LINE, (0, 0)), (LINE, (0, 4)), (LONG, (3, 5)), (LINE, (1, 1))):
            self.assertIsInstance(ends(net, 1, [pair]), Ends)
