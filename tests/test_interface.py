"""The names and arguments of the interface, and where each function, class and method is defined."""

import inspect
import unittest

from hearsayways import nets, tables
from hearsayways.nets import Net

FUNCTIONS = {
    tables: {
        "first_state": "(net)", "deeds": "(net, state)", "truly": "(net, state)", "after": "(net, state, deed)",
        "woven": "(net, history)", "all_states": "(net)",
    },
}
METHODS = {
    Net: {
        "__init__": "(self, hosts, ties, *, weak=(), endless=4, split='plain', cry='still', hold=0)",
        "__eq__": None, "__len__": None, "__getitem__": None, "__iter__": None,
        "but": "(self, name, thing)", "with_weak": "(self, weak)",
    },
}


class Interface(unittest.TestCase):
    def test_functions(self):
        for module, told in FUNCTIONS.items():
            for name, arguments in told.items():
                with self.subTest(name):
                    made = getattr(module, name)
                    self.assertEqual(str(inspect.signature(made)), arguments)
                    self.assertEqual(made.__module__, module.__name__)

    def test_methods_stand_in_the_class_itself(self):
        for made, told in METHODS.items():
            for name, arguments in told.items():
                with self.subTest(name):
                    self.assertIn(name, vars(made))
                    if arguments is not None:
                        self.assertEqual(str(inspect.signature(vars(made)[name])), arguments)

    def test_classes_are_defined_in_their_file(self):
        self.assertEqual(Net.__module__, nets.__name__)
