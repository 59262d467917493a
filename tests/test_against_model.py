"""[3] and [4] for whole families of nets, against a second telling of the document's words."""

import unittest

from hearsayways.errors import BadState, TooLarge
from hearsayways.nets import Net
from hearsayways.tables import after, all_states, deeds, first_state, truly

from tests import model


def small_nets():
    for hosts in (2, 3):
        for shape in model.shapes(hosts):
            for rules in model.RULES:
                yield Net(shape[0], shape[1], weak=shape[2], **rules)


def large_nets():
    """Some nets with four hosts, so chosen that all shapes and all rules occur."""
    for at, shape in enumerate(model.shapes(4)):
        yield Net(shape[0], shape[1], weak=shape[2], **model.RULES[at * 5 % len(model.RULES)])


class AgainstModel(unittest.TestCase):
    def check(self, net, state):
        told = model.Model(net, state)
        able = deeds(net, state)
        self.assertEqual(able, told.deeds())
        self.assertEqual(truly(net, state), [told.true(host) for host in range(net.hosts)])
        for deed in able:
            self.assertEqual(after(net, state, deed), model.behind(net, state, deed))

    def check_all(self, net):
        expected = model.come_about(net)
        if len(expected) > 800:
            with self.assertRaises(TooLarge):
                all_states(net)
            return
        states = all_states(net)
        self.assertEqual(len(states), len(expected))
        self.assertEqual(set(states), expected)
        self.assertIn(first_state(net), states)

    def test_states_that_come_about_in_small_nets(self):
        for net in small_nets():
            with self.subTest(net=vars(net)):
                self.check_all(net)

    def test_states_that_come_about_in_large_nets(self):
        for net in large_nets():
            with self.subTest(net=vars(net)):
                self.check_all(net)

    def test_deeds_in_large_nets(self):
        for at, net in enumerate(large_nets()):
            if at % 20 == 0:
                for state in list(model.come_about(net))[:60]:
                    with self.subTest(net=vars(net), state=state):
                        self.check(net, state)

    def test_all_thinkable_states(self):
        for split in ("plain", "poison", "quiet"):
            for cry in ("loud", "still"):
                net = Net(3, ((0, 1), (0, 2), (1, 2)), weak=(0, 2), endless=3, split=split, cry=cry, hold=1)
                for state in model.thinkable(net):
                    if model.is_state(net, state):
                        self.check(net, state)
                    else:
                        with self.assertRaises(BadState):
                            deeds(net, state)
