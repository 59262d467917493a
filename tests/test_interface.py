"""The names and arguments of the interface, and where each function, class and method is defined."""

import inspect
import unittest

from hearsayways import (
    choosing, desks, harming, hearing, judging, letters, nets, pictures, righting, settling, tables, texts)
from hearsayways.choosing import Cheapest, NoRules
from hearsayways.desks import LiveNet
from hearsayways.harming import Harm, NoHarm
from hearsayways.hearing import Ends
from hearsayways.judging import Broken, Safe
from hearsayways.letters import Fates
from hearsayways.nets import Net
from hearsayways.pictures import Alike, Parted, Pictures
from hearsayways.righting import Lost, Righted
from hearsayways.settling import Longest

FUNCTIONS = {
    tables: {
        "first_state": "(net)", "deeds": "(net, state)", "truly": "(net, state)", "after": "(net, state, deed)",
        "woven": "(net, history)", "all_states": "(net)",
    },
    judging: {
        "judge": "(net, wish)", "is_safe": "(net, wish)", "soonest": "(net, wish)", "broken_by": "(net, history)",
        "settled": "(net, state)",
    },
    settling: {"longest": "(net)", "longest_rush": "(net)"},
    choosing: {
        "choices": "(net, prices)", "chosen": "(net, prices, choice)", "cheapest": "(net, prices, hopes)",
        "least_cost": "(net, prices, hopes)",
    },
    letters: {"fates": "(net, host, hops)", "fated": "(net, host, hops)", "most_hops": "(net, host, hops)"},
    pictures: {
        "pictures": "(net)", "pictured": "(net)", "compare": "(one, other)", "are_alike": "(one, other)",
    },
    hearing: {"ends": "(net, host, log)", "standing": "(net, host, log)", "next_heard": "(net, host, log)"},
    texts: {
        "net_text": "(net)", "weaving_text": "(net, history)", "read_net": "(text)", "read_weaving": "(net, text)",
    },
    harming: {
        "harm": "(net, rates, wish)", "least_harm": "(net, rates, wish)", "weaving_price": "(net, rates, weaving)",
    },
    righting: {
        "right": "(net, state)", "can_right": "(net, state)", "fewest_tells": "(net, state)",
        "is_right": "(net, state)",
    },
}
METHODS = {
    Net: {
        "__init__": "(self, hosts, ties, *, weak=(), endless=4, split='plain', cry='still', hold=0)",
        "__eq__": None, "__len__": None, "__getitem__": None, "__iter__": None,
        "but": "(self, name, thing)", "with_weak": "(self, weak)",
    },
    Safe: {"__init__": "(self, states)", "__eq__": None, "shows": "(self, net, wish)"},
    Broken: {"__init__": "(self, weaving)", "__eq__": None, "shows": "(self, net, wish)"},
    Longest: {"__init__": "(self, ahead, rush, numbers)", "__eq__": None, "shows": "(self, net)"},
    Cheapest: {
        "__init__": "(self, choice, states, against)", "__eq__": None, "shows": "(self, net, prices, hopes)",
    },
    NoRules: {"__init__": "(self, against)", "__eq__": None, "shows": "(self, net, prices, hopes)"},
    Fates: {"__init__": "(self, journeys, posts)", "__eq__": None, "shows": "(self, net, host, hops)"},
    Pictures: {"__init__": "(self, weavings, states)", "__eq__": None, "shows": "(self, net)"},
    Alike: {"__init__": "(self, one, other)", "__eq__": None, "shows": "(self, one, other)"},
    Parted: {
        "__init__": "(self, picture, number, weaving, states)", "__eq__": None, "shows": "(self, one, other)",
    },
    Ends: {"__init__": "(self, ends, layers)", "__eq__": None, "shows": "(self, net, host, log)"},
    LiveNet: {
        "__init__": "(self, net)", "__len__": "(self)", "__call__": "(self, deed)", "now": None, "journal": None,
        "able_now": "(self)", "way": "(self, host)", "undo": "(self)", "branch": "(self)", "trial": "(self)",
        "attempt": "(self, work)", "tried": "(self, history)",
    },
    Harm: {"__init__": "(self, price, weaving, floors)", "__eq__": None, "shows": "(self, net, rates, wish)"},
    NoHarm: {"__init__": "(self, states)", "__eq__": None, "shows": "(self, net, rates, wish)"},
    Righted: {"__init__": "(self, tells, levels)", "__eq__": None, "shows": "(self, net, state)"},
    Lost: {"__init__": "(self, states)", "__eq__": None, "shows": "(self, net, state)"},
}


class Interface(unittest.TestCase):
    def test_functions(self):
        for module, told in FUNCTIONS.items():
            for name, arguments in told.items():
                with self.subTest(name):
                    made = getattr(module, name)
                    self.assertEqual(str(inspect.signature(made)), arguments)
                    self.assertEqual(made.__module__, module.__name__)

    def test_methods_stand_in_the_class_itself(self):
        for made, told in METHODS.items():
            for name, arguments in told.items():
                with self.subTest(name):
                    self.assertIn(name, vars(made))
                    if arguments is not None:
                        self.assertEqual(str(inspect.signature(vars(made)[name])), arguments)

    def test_classes_are_defined_in_their_file(self):
        files = {Net: nets, Safe: judging, Broken: judging, Longest: settling, Cheapest: choosing, NoRules: choosing,
                 Fates: letters, Pictures: pictures, Alike: pictures, Parted: pictures, Ends: hearing,
                 LiveNet: desks, Harm: harming, NoHarm: harming, Righted: righting, Lost: righting}
        self.assertEqual(set(files), set(METHODS))
        for made, module in files.items():
            self.assertEqual(made.__module__, module.__name__)
