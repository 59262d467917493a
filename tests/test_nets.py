"""[1], [2] and nets.py of the interface."""

import unittest

from hearsayways.errors import BadNet, BadTie
from hearsayways.nets import Net

LINE = ((0, 1), (1, 2))
SQUARE = ((0, 1), (0, 2), (0, 3), (1, 2), (1, 3))
ODD = [None, True, False, "3", b"3", [], {}, (), [3], object(), 3 + 0j, 10 ** 30, -1]


def part_of(*arguments, **more):
    """What the BadNet is told for with which a Net is refused."""
    try:
        Net(*arguments, **more)
    except BadNet as error:
        return error.part
    return "accepted"


class Parts(unittest.TestCase):
    def test_example(self):
        net = Net(3, ((0, 1), (1, 2)), weak=(0,))
        self.assertEqual(
            [net.endless, net.split, net.cry, net.hold, len(net), net[1], net.but("split", "quiet").split,
             net.with_weak(()) == Net(3, ((0, 1), (1, 2)))],
            [4, "plain", "still", 0, 3, (1, 2), "quiet", True])

    def test_all_seven_are_attributes(self):
        net = Net(4, SQUARE, weak=(0, 2, 4), endless=5, split="poison", cry="loud", hold=2)
        self.assertEqual((net.hosts, net.ties, net.weak), (4, SQUARE, (0, 2, 4)))
        self.assertEqual((net.endless, net.split, net.cry, net.hold), (5, "poison", "loud", 2))
        plain = Net(hosts=2, ties=((0, 1),))
        self.assertEqual((plain.hosts, plain.ties, plain.weak), (2, ((0, 1),), ()))
        self.assertEqual((plain.endless, plain.split, plain.cry, plain.hold), (4, "plain", "still", 0))

    def test_weak_and_rules_are_passed_by_keyword(self):
        with self.assertRaises(TypeError):
            Net(3, LINE, (0,))

    def test_hosts(self):
        for hosts in (2, 3, 4):
            self.assertEqual(len(Net(hosts, ((0, 1),))), hosts)
        for hosts in [0, 1, 5, -2, *ODD]:
            with self.subTest(hosts=hosts):
                self.assertEqual(part_of(hosts, ((0, 1),)), "hosts")

    def test_ties(self):
        for hosts, ties in ((2, ((0, 1),)), (3, ((1, 2),)), (4, SQUARE), (4, ((0, 3), (1, 2)))):
            self.assertEqual(Net(hosts, ties).ties, ties)
        wrong = [
            (), ((1, 0),), ((1, 1),), ((0, 3),), ((-1, 1),), ((0, 1, 2),), ((0,),), ((),), (0, 1), ([0, 1],),
            [(0, 1)], ((0, 1), [1, 2]), ((1, 2), (0, 1)), ((0, 1), (0, 1)), ((False, 1),), ((0, True),),
            ((0, 1), (True, 2)), (("0", "1"),), ((0, None),), ((0, 10 ** 30),), "01", {(0, 1): True},
            ((0, 1), None), (((0, 1),),), ("01",), {(0, 1)}, ((0, 1), (0, 2), (0, 2)), *ODD,
        ]
        for ties in wrong:
            with self.subTest(ties=ties):
                self.assertEqual(part_of(3, ties), "ties")

    def test_five_ties_at_most(self):
        six = ((0, 1), (0, 2), (0, 3), (1, 2), (1, 3), (2, 3))
        for left in range(6):
            self.assertEqual(part_of(4, six[:left] + six[left + 1:]), "accepted")
        self.assertEqual(part_of(4, six), "ties")

    def test_hosts_of_ties_depend_on_their_number(self):
        self.assertEqual(part_of(2, LINE), "ties")
        self.assertEqual(part_of(3, ((0, 1), (1, 3))), "ties")
        self.assertEqual(part_of(4, ((0, 1), (1, 3))), "accepted")
        self.assertEqual(part_of(4, ((0, 1), (1, 4))), "ties")

    def test_weak(self):
        for weak in ((), (0,), (4,), (0, 1), (1, 4), (0, 1, 2), (2, 3, 4)):
            self.assertEqual(Net(4, SQUARE, weak=weak).weak, weak)
        wrong = [
            (5,), (-1,), (0, 5), (0, 0), (1, 0), (0, 1, 1), (0, 2, 1), (0, 1, 2, 3), (False,), (True,), (0, True),
            (None,), ("0",), ((0,),), [0], (0, [1]), {0: True}, "0", {0}, range(2), (0, 10 ** 30),
        ]
        for weak in wrong + [odd for odd in ODD if odd != ()]:
            with self.subTest(weak=weak):
                self.assertEqual(part_of(4, SQUARE, weak=weak), "weak")
        self.assertEqual(part_of(3, LINE, weak=(1,)), "accepted")
        self.assertEqual(part_of(3, LINE, weak=(2,)), "weak")

    def test_rules_within_their_bounds(self):
        for name, things in (("endless", (2, 3, 4, 5)), ("split", ("plain", "poison", "quiet")),
                             ("cry", ("loud", "still")), ("hold", (0, 1, 2))):
            for thing in things:
                self.assertEqual(getattr(Net(3, LINE, **{name: thing}), name), thing)
                self.assertEqual(getattr(Net(3, LINE).but(name, thing), name), thing)

    def test_rules_beyond_their_bounds(self):
        wrong = {
            "endless": [0, 1, 6, "4", *ODD],
            "split": ["", "Plain", "plain ", "loud", ("plain",), ["plain"], {"plain": 1}, b"plain", *ODD],
            "cry": ["", "Loud", "silent", "plain", 0, ["loud"], b"loud", *ODD],
            "hold": [3, 4, "0", [0], *ODD],
        }
        for name in wrong:
            for thing in wrong[name]:
                with self.subTest(name=name, thing=thing):
                    self.assertEqual(part_of(3, LINE, **{name: thing}), name)
                    with self.assertRaises(BadNet) as caught:
                        Net(3, LINE).but(name, thing)
                    self.assertEqual(caught.exception.part, name)

    def test_the_first_wrong_part_is_told(self):
        names = ["hosts", "ties", "weak", "endless", "split", "cry", "hold"]
        right = {"hosts": 3, "ties": LINE, "weak": (0,), "endless": 4, "split": "plain", "cry": "still", "hold": 0}
        wrong = {"hosts": 9, "ties": 9, "weak": 9, "endless": 9, "split": 9, "cry": 9, "hold": 9}
        for first in range(len(names)):
            for second in range(first, len(names)):
                parts = {**right, names[first]: 9, names[second]: 9}
                self.assertEqual(part_of(**parts), names[first])
        self.assertEqual(part_of(**wrong), "hosts")


class Methods(unittest.TestCase):
    def test_indexing(self):
        net = Net(4, SQUARE)
        self.assertEqual([net[tie] for tie in range(5)], list(SQUARE))
        for tie in [5, -1, -5, "0", slice(0, 1), (0, 1), *ODD]:
            with self.subTest(tie=tie), self.assertRaises(BadTie):
                net[tie]
        with self.assertRaises(BadTie):
            Net(4, ((0, 1),))[1]

    def test_iterating_is_refused(self):
        net = Net(3, LINE)
        for walk in (list, tuple, iter, sorted, lambda it: [tie for tie in it], lambda it: 3 in it,
                     lambda it: [*it]):
            with self.assertRaises(TypeError):
                walk(net)

    def test_but_leaves_all_else(self):
        net = Net(4, SQUARE, weak=(0, 2), endless=5, split="poison", cry="loud", hold=2)
        self.assertEqual(net.but("endless", 3),
                         Net(4, SQUARE, weak=(0, 2), endless=3, split="poison", cry="loud", hold=2))
        self.assertEqual(net.but("split", "quiet"),
                         Net(4, SQUARE, weak=(0, 2), endless=5, split="quiet", cry="loud", hold=2))
        self.assertEqual(net.but("cry", "still"),
                         Net(4, SQUARE, weak=(0, 2), endless=5, split="poison", cry="still", hold=2))
        self.assertEqual(net.but("hold", 0), Net(4, SQUARE, weak=(0, 2), endless=5, split="poison", cry="loud"))
        self.assertEqual((net.endless, net.split, net.cry, net.hold), (5, "poison", "loud", 2))
        self.assertEqual(net.but("hold", 2), net)
        self.assertIsNot(net.but("hold", 2), net)

    def test_but_refuses_other_names(self):
        net = Net(3, LINE)
        for name in ["weak", "ties", "hosts", "", "Split", "split ", ["split"], {"split": 1}, ("split",), *ODD]:
            with self.subTest(name=name), self.assertRaises(BadNet) as caught:
                net.but(name, "nothing that a rule can be")
            self.assertIsNone(caught.exception.part)

    def test_with_weak(self):
        net = Net(4, SQUARE, weak=(0, 2), endless=5, split="poison", cry="loud", hold=2)
        other = net.with_weak((1, 3, 4))
        self.assertEqual(other, Net(4, SQUARE, weak=(1, 3, 4), endless=5, split="poison", cry="loud", hold=2))
        self.assertEqual(net.weak, (0, 2))
        self.assertEqual(net.with_weak(weak=()).weak, ())
        for weak in ((5,), [0], (True,), (1, 0), (0, 1, 2, 3), None):
            with self.subTest(weak=weak), self.assertRaises(BadNet) as caught:
                net.with_weak(weak)
            self.assertEqual(caught.exception.part, "weak")

    def test_equality_needs_all_seven(self):
        parts = {"hosts": 3, "ties": LINE, "weak": (0,), "endless": 4, "split": "plain", "cry": "still", "hold": 0}
        others = {"hosts": 4, "ties": ((0, 1), (0, 2)), "weak": (1,), "endless": 3, "split": "quiet", "cry": "loud",
                  "hold": 1}
        net = Net(**parts)
        self.assertTrue(net == Net(**parts))
        self.assertFalse(net != Net(**parts))
        for name in others:
            with self.subTest(name):
                self.assertFalse(net == Net(**{**parts, name: others[name]}))
                self.assertTrue(net != Net(**{**parts, name: others[name]}))

    def test_nothing_else_is_equal_to_a_net(self):
        net = Net(3, LINE)
        for other in [3, LINE, (3, LINE, (), 4, "plain", "still", 0), BadNet("hosts"), Net, *ODD]:
            self.assertIs(net == other, False)
            self.assertIs(net != other, True)
            self.assertIs(other == net, False)
