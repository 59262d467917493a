"""[8] and choosing.py of the interface."""

import unittest
from itertools import combinations, product

from hearsayways.choosing import Cheapest, NoRules, cheapest, choices, chosen, least_cost
from hearsayways.errors import BadChoice, BadNet, BadPrices, BadWish, TooLarge
from hearsayways.judging import WISHES, judge
from hearsayways.nets import Net
from hearsayways.tables import all_states

from tests import model
from tests.samples import LARGE, LINE, NO_DEEDS, NO_NETS, ODD, PAIR, RING, RING_WEAVING, TOO_LARGE

NAMES = ("endless", "split", "cry", "hold")
THINGS = {"endless": (2, 3, 4, 5), "split": ("plain", "poison", "quiet"), "cry": ("loud", "still"), "hold": (0, 1, 2)}
ALL = {"endless": 9, "split": 3, "cry": 1, "hold": 2}
PRICES = {"hold": 1, "split": 1}
RINGS = ("ring",)
OWN, HELD, POISON = (4, "plain", "still", 0), (4, "plain", "still", 1), (4, "poison", "still", 0)
NO_PRICES = [
    {"split": 0}, {"split": 10}, {"split": -1}, {"split": True}, {"split": "1"}, {"split": None}, {"split": (1,)},
    {"split": 2, "cry": False}, {"split": 2, "weak": 1}, {"ties": 1}, {"hosts": 1}, {"Split": 1}, {"": 1}, {True: 1},
    {0: 1}, {None: 1}, {("split",): 1}, {b"split": 1}, {**ALL, "other": 1}, {**ALL, 1: 1}, {"endless": 10 ** 30},
    [("split", 1)], (("split", 1),), ["split"], "split", {"split"}, {"split": [1]}, *ODD,
]
NO_HOPES = [
    [], ["ring"], "ring", (), ("ring", "ring"), ("ring", "climb"), ("wrong", "ring"), ("Ring",), ("ring", None),
    ("ring", True), (True,), (0,), (None,), (("ring",),), (["ring"],), ({},), WISHES, WISHES + ("zeal",),
    ("ring", "zeal"), {"ring": 1}, {"ring"}, (b"ring",), ("climb", "ring", "misled"), ("",), *ODD,
]


def rules(net):
    return net.endless, net.split, net.cry, net.hold


def priced(net, prices):
    """The list of all choices with what each costs, in order, told in the words of the document."""
    rows = []
    for choice in product(*[THINGS[name] for name in NAMES]):
        other = [name for name, own, thing in zip(NAMES, rules(net), choice) if thing != own]
        if all(name in prices for name in other):
            rows.append((sum(prices[name] for name in other), choice))
    return sorted(rows)


def with_choice(net, choice):
    return Net(net.hosts, net.ties, weak=net.weak, **dict(zip(NAMES, choice)))


class Examples(unittest.TestCase):
    def test_example(self):
        net, prices = Net(3, ((0, 1), (1, 2)), weak=(0,)), {"split": 2, "cry": 1}
        found = cheapest(net, prices, ("ring",))
        self.assertEqual(
            [choices(net, prices)[:3], found.choice, least_cost(net, prices, ("ring",)),
             least_cost(net, {"split": 2}, ("ring",)), least_cost(net, {"hold": 1}, ("misled",)),
             chosen(net, prices, found.choice).cry],
            [[(4, "plain", "still", 0), (4, "plain", "loud", 0), (4, "poison", "still", 0)],
             (4, "plain", "loud", 0), 1, 2, None, "loud"])


class Choices(unittest.TestCase):
    def test_all_in_order(self):
        nets = [LINE, RING.but("cry", "loud").but("hold", 2), PAIR.but("endless", 2).but("split", "quiet"), TOO_LARGE]
        for net in nets:
            for many in (1, 2, 3, 4):
                for names in combinations(NAMES, many):
                    for costs in ((1, 1, 1, 1), (9, 3, 1, 2), (2, 1, 3, 9)):
                        prices = dict(zip(names, costs))
                        with self.subTest(prices=prices):
                            self.assertEqual(choices(net, prices), [row[1] for row in priced(net, prices)])

    def test_by_one_price(self):
        self.assertEqual(choices(LINE, {"split": 9}), [OWN, POISON, (4, "quiet", "still", 0)])
        self.assertEqual(choices(LINE, {"cry": 1}), [OWN, (4, "plain", "loud", 0)])
        self.assertEqual(choices(LINE, {"hold": 1}), [OWN, HELD, (4, "plain", "still", 2)])
        self.assertEqual(choices(LINE, {"endless": 1}),
                         [OWN, (2, "plain", "still", 0), (3, "plain", "still", 0), (5, "plain", "still", 0)])

    def test_four_prices_in_any_order(self):
        turned = dict(reversed(list(ALL.items())))
        self.assertEqual(len(choices(LINE, ALL)), 72)
        self.assertEqual(choices(LINE, ALL), choices(LINE, turned))
        self.assertEqual(choices(LINE, ALL)[0], OWN)

    def test_chosen(self):
        net = Net(4, ((0, 1), (1, 2), (2, 3)), weak=(0, 2), endless=5, split="quiet", cry="loud", hold=2)
        for choice in choices(net, ALL):
            self.assertEqual(chosen(net, ALL, choice), with_choice(net, choice))
        self.assertEqual(chosen(net, {"cry": 1}, (5, "quiet", "loud", 2)), net)
        self.assertIsNot(chosen(net, {"cry": 1}, (5, "quiet", "loud", 2)), net)
        self.assertEqual(chosen(LINE, {"hold": 1}, HELD), LINE.but("hold", 1))

    def test_no_choice(self):
        wrong = [
            [4, "plain", "still", 0], (4, "plain", "still"), (4, "plain", "still", 0, 0), (), ("plain", 4, "still", 0),
            (4, "plain", "still", False), (True, "plain", "still", 0), (4, "plain", "loud", 0),
            (3, "plain", "still", 0), (4, "poison", "still", 3), (4, "poison", "still", -1),
            (4, "Poison", "still", 0), (4, ["poison"], "still", 0),
            (4, None, "still", 0), (4, "poison", None, 0), (4, "poison", "still", None), (4, "poison", {}, 0),
            (6, "plain", "still", 0), (4, "plain", "still", "0"), (4, b"plain", "still", 0), {OWN: 1}, {OWN}, (OWN,),
            (Always(), "plain", "still", 0), (4, Always(), "still", 0), (4, "plain", Always(), 0),
            (4, "plain", "still", Always()), (4, "plain", "still", True), *ODD,
        ]
        for choice in wrong:
            with self.subTest(choice=choice), self.assertRaises(BadChoice):
                chosen(LINE, PRICES, choice)
        for choice in choices(LINE, PRICES):
            self.assertEqual(chosen(LINE, PRICES, choice), with_choice(LINE, choice))


class Always:
    """Something that is equal to whatever it is compared with."""

    def __eq__(self, other):
        return True

    __hash__ = None


class Cheapests(unittest.TestCase):
    def check(self, net, prices, hopes):
        broken = {}
        for cost, choice in priced(net, prices):
            many, soonest = model.many_and_soonest(with_choice(net, choice))
            if many > 800:
                self.refuse(net, prices, hopes)
                return
            if not set(hopes) & set(soonest):
                self.check_cheapest(net, prices, hopes, (cost, choice), broken)
                return
            broken[choice] = cost
        found = cheapest(net, prices, hopes)
        self.assertIsInstance(found, NoRules)
        self.assertIsNone(least_cost(net, prices, hopes))
        self.check_against(net, hopes, found.against, list(broken))
        self.assertIs(found.shows(net, prices, hopes), True)

    def refuse(self, net, prices, hopes):
        for call in (cheapest, least_cost):
            with self.assertRaises(TooLarge):
                call(net, prices, hopes)

    def check_cheapest(self, net, prices, hopes, row, broken):
        cost, choice = row
        found = cheapest(net, prices, hopes)
        self.assertIsInstance(found, Cheapest)
        self.assertEqual(least_cost(net, prices, hopes), cost)
        self.assertEqual(found.choice, choice)
        for wish in hopes:
            self.assertTrue(model.is_safe_list(with_choice(net, choice), wish, found.states))
        self.check_against(net, hopes, found.against, [other for other in broken if broken[other] < cost])
        self.assertIs(found.shows(net, prices, hopes), True)

    def check_against(self, net, hopes, against, expected):
        self.assertEqual(list(against), expected)
        for choice, (wish, weaving) in against.items():
            self.assertIn(wish, hopes)
            self.assertIsInstance(weaving, tuple)
            self.assertTrue(model.ends_broken(with_choice(net, choice), wish, weaving))

    def test_by_judging_the_net_with_each_choice(self):
        nets = [LINE, LINE.but("endless", 5), PAIR, RING, RING.with_weak((0,)),
                Net(4, ((0, 1), (1, 2), (1, 3), (2, 3)), weak=(0,), endless=5)]
        some = [{"split": 2, "cry": 1}, {"split": 1}, {"hold": 1}, {"cry": 9, "hold": 1}, PRICES, ALL,
                {"hold": 1, "split": 2, "cry": 3}, {"endless": 9, "hold": 1, "split": 4}]
        hopes = [RINGS, ("misled",), ("climb", "misled", "ring"), ("climb", "wrong")]
        for net in nets:
            for prices in some:
                for hope in hopes:
                    with self.subTest(net=vars(net), prices=prices, hopes=hope):
                        self.check(net, prices, hope)

    def test_with_more_than_800_states(self):
        for net in (LARGE, TOO_LARGE, TOO_LARGE.but("hold", 0), LARGE.but("cry", "loud")):
            for prices in ({"hold": 1}, {"cry": 2, "split": 1}):
                for hopes in (RINGS, ("misled", "wrong")):
                    with self.subTest(prices=prices, hopes=hopes):
                        self.check(net, prices, hopes)

    def test_all_that_costs_less_and_no_more_is_told_against(self):
        found = cheapest(LINE, PRICES, RINGS)
        self.assertEqual((found.choice, list(found.against)), (POISON, [OWN]))
        dear = cheapest(LINE, {"hold": 1, "split": 2}, RINGS)
        self.assertEqual((dear.choice, list(dear.against)), (POISON, [OWN, HELD, (4, "plain", "still", 2)]))

    def test_a_good_net_costs_nothing(self):
        found = cheapest(LINE, PRICES, ("wrong",))
        self.assertEqual((found.choice, found.against), (OWN, {}))
        self.assertEqual(least_cost(LINE, PRICES, ("wrong",)), 0)

    def test_one_and_three_hopes(self):
        for many in (1, 2, 3):
            for hopes in combinations(WISHES, many):
                expected = min((cost for cost, choice in priced(LINE, ALL)
                                if not set(hopes) & set(model.many_and_soonest(with_choice(LINE, choice))[1])),
                               default=None)
                self.assertEqual(least_cost(LINE, ALL, hopes), expected)

    def test_too_large_only_up_to_the_first_good_choice(self):
        # With the least endless distance a net has few states, but with its own one it has too many.
        with self.assertRaises(TooLarge):
            cheapest(TOO_LARGE, {"endless": 1}, ("wrong",))
        small = TOO_LARGE.but("endless", 2)
        self.assertLess(len(all_states(small)), 800)
        self.assertEqual(least_cost(small, {"endless": 1}, ("wrong",)), 0)
        self.assertEqual(cheapest(small, {"endless": 1}, ("wrong",)).choice, (2, "poison", "still", 2))
        with self.assertRaises(TooLarge):
            all_states(small.but("endless", 4))

    def test_too_large_on_the_way(self):
        net = TOO_LARGE.but("hold", 0)
        self.assertTrue(judge(net, "ring").shows(net, "ring"))
        for prices in ({"hold": 1}, {"hold": 1, "split": 9}):
            self.check(net, prices, RINGS)
            self.check(net, prices, ("climb", "misled"))


class CheapestShows(unittest.TestCase):
    def setUp(self):
        self.prices = {"hold": 1, "split": 2}
        self.found = cheapest(LINE, self.prices, RINGS)

    def shows(self, choice=None, states=None, against=None, hopes=RINGS, net=LINE):
        found = self.found
        return Cheapest(found.choice if choice is None else choice, found.states if states is None else states,
                        found.against if against is None else against).shows(net, self.prices, hopes)

    def test_as_it_is_told(self):
        self.assertIs(self.shows(), True)
        self.assertEqual(self.found.choice, POISON)
        self.assertEqual(len(self.found.against), 3)

    def test_the_dict_and_the_states_in_another_order(self):
        self.assertIs(self.shows(against=dict(reversed(list(self.found.against.items())))), True)
        self.assertIs(self.shows(states=self.found.states[::-1] + self.found.states), True)
        self.prices = {"split": 2, "hold": 1}
        self.assertIs(self.shows(), True)

    def test_weavings_may_be_lists_and_longer(self):
        against = {choice: (wish, [("fall", 0), ("come", 0), *weaving])
                   for choice, (wish, weaving) in self.found.against.items()}
        self.assertIs(self.shows(against=against), True)
        changed = cheapest(LINE, self.prices, RINGS)
        changed.against[OWN] = ("ring", list(RING_WEAVING))
        self.assertIs(changed.shows(LINE, self.prices, RINGS), True)

    def test_another_choice_that_costs_as_much(self):
        quiet = (4, "quiet", "still", 0)
        states = all_states(LINE.but("split", "quiet"))
        self.assertIs(self.shows(choice=quiet, states=states), True)
        loud = (4, "plain", "loud", 0)
        self.assertIs(self.shows(choice=loud, states=all_states(LINE.but("cry", "loud"))), False)
        self.assertIs(Cheapest(loud, self.found.states, {}).shows(LINE, {"cry": 1}, RINGS), False)

    def test_a_choice_that_costs_more(self):
        dear = (4, "poison", "still", 1)
        net = with_choice(LINE, dear)
        self.assertTrue(judge(net, "ring").shows(net, "ring"))
        self.assertIs(self.shows(choice=dear, states=all_states(net)), False)
        pair = ("ring", RING_WEAVING)
        against = {**self.found.against, POISON: pair, (4, "quiet", "still", 0): pair}
        self.assertIs(self.shows(choice=dear, states=all_states(net), against=against), False)

    def test_a_choice_that_is_not_good(self):
        self.assertIs(self.shows(choice=OWN, states=all_states(LINE), against={}), False)
        self.assertIs(self.shows(choice=HELD, states=all_states(LINE.but("hold", 1))), False)

    def test_what_is_no_choice(self):
        for choice in [(4, "poison", "loud", 0), (5, "poison", "still", 0), (4, "poison", "still", False),
                       (4, "poison", "still", 3), (4, "venom", "still", 0), (True, "poison", "still", 0)]:
            self.assertIs(self.shows(choice=choice), False)

    def test_states(self):
        for state in set(self.found.states):
            self.assertIs(self.shows(states=[other for other in self.found.states if other != state]), False)
        self.assertIs(self.shows(states=[]), False)
        ring = model.closure(LINE.but("split", "poison"), [(((3, 2, 0), (2, 1, 0)), (False, True))])
        self.assertIs(self.shows(states=[*self.found.states, *ring]), False)
        self.assertIs(self.shows(states=[*self.found.states, (((True, 0, 0), (2, 1, 0)), (True, True))]), False)

    def test_all_hopes_are_looked_at(self):
        net = LINE.but("endless", 5)
        prices = {"split": 1}
        # Here the first choice that is good for one of the hopes is not so for the other one.
        for hopes in (RINGS, ("climb", "ring"), ("climb", "misled", "ring"), ("misled", "ring"), ("wrong",)):
            found = cheapest(net, prices, hopes)
            self.assertIs(found.shows(net, prices, hopes), True)
        own = Cheapest((5, "plain", "still", 0), all_states(net), {})
        self.assertIs(own.shows(net, prices, ("wrong",)), True)
        for hopes in (("ring", "wrong"), ("climb", "wrong"), ("misled", "wrong")):
            self.assertIs(own.shows(net, prices, hopes), False)
        own = Cheapest(OWN, all_states(LINE), {})
        self.assertIs(own.shows(LINE, prices, ("climb",)), True)
        self.assertIs(own.shows(LINE, prices, ("climb", "ring")), False)
        self.assertIs(own.shows(LINE, prices, ("climb", "misled", "wrong")), False)

    def test_a_pair_that_is_missing(self):
        for choice in self.found.against:
            part = {other: pair for other, pair in self.found.against.items() if other != choice}
            self.assertIs(self.shows(against=part), False)
        self.assertIs(self.shows(against={}), False)

    def test_a_pair_too_many(self):
        for choice in [POISON, (4, "quiet", "still", 0), (4, "plain", "loud", 0), (5, "plain", "still", 0),
                       (4, "plain", "still", 3), (9, "plain", "still", 0)]:
            self.assertIs(self.shows(against={**self.found.against, choice: ("ring", RING_WEAVING)}), False)
        # One that costs as much, and is not good, is one too many, too.
        cheap = cheapest(LINE, PRICES, RINGS)
        self.assertIs(cheap.shows(LINE, PRICES, RINGS), True)
        more = Cheapest(cheap.choice, cheap.states, {**cheap.against, HELD: self.found.against[HELD]})
        self.assertIs(more.shows(LINE, PRICES, RINGS), False)

    def test_a_pair_in_the_place_of_another_one(self):
        against = dict(self.found.against)
        pair = against.pop(HELD)
        self.assertIs(self.shows(against={**against, (4, "plain", "loud", 0): ("ring", RING_WEAVING)}), False)
        self.assertIs(self.shows(against={**against, (4, "plain", "still", True): pair}), False)
        self.assertIs(self.shows(against={**against, (4, "plain", "still", 1): pair}), True)

    def test_a_pair_of_another_wish(self):
        against = {choice: ("misled", pair[1]) for choice, pair in self.found.against.items()}
        self.assertIs(self.shows(against=against), False)
        self.assertIs(self.shows(against=against, hopes=("misled", "ring")), True)
        self.assertIs(self.shows(against=against, hopes=("misled",)), True)
        for word in ("climb", "wrong", "sing", ""):
            self.assertIs(self.shows(against={**self.found.against, OWN: (word, RING_WEAVING)}), False)

    def test_weavings(self):
        for choice, (wish, weaving) in self.found.against.items():
            wrong = [(), weaving[:-1], weaving[1:], (*weaving, ("fall", 0)), (*weaving, ("tell", 1, 0)),
                     (("tell", False, 1), *weaving[1:])]
            for deeds in wrong + [(deed, *weaving) for deed in NO_DEEDS]:
                with self.subTest(deeds=deeds):
                    self.assertIs(self.shows(against={**self.found.against, choice: (wish, deeds)}), False)

    def test_weavings_are_for_the_net_with_the_choice(self):
        # Without hold, one telling is enough to mislead.
        self.assertIs(self.shows(against={**self.found.against, HELD: ("ring", RING_WEAVING)}), False)
        self.assertIs(self.shows(against={**self.found.against, OWN: ("ring", RING_WEAVING)}), True)

    def test_another_net_and_other_prices(self):
        self.assertIs(self.shows(net=LINE.but("endless", 5)), False)
        self.assertIs(self.shows(net=LINE.but("hold", 1)), False)
        self.assertIs(self.shows(net=RING), False)
        for prices in ({"split": 2}, {"split": 1, "hold": 1}, {"split": 2, "cry": 1},
                       {"hold": 1, "split": 2, "cry": 1}):
            self.assertIs(self.found.shows(LINE, prices, RINGS), False)
        for prices in ({"split": 2, "hold": 1}, {"split": 9, "hold": 4}, {"hold": 3, "split": 4}):
            self.assertIs(self.found.shows(LINE, prices, RINGS), True)

    def test_more_than_800_states_are_no_matter(self):
        states = list(model.come_about(TOO_LARGE))
        found = Cheapest(rules(TOO_LARGE), states, {})
        self.assertIs(found.shows(TOO_LARGE, {"hold": 1}, ("wrong",)), True)
        self.assertIs(Cheapest(rules(TOO_LARGE), states[1:], {}).shows(TOO_LARGE, {"hold": 1}, ("wrong",)), False)


class NoRulesShows(unittest.TestCase):
    def setUp(self):
        self.prices = {"hold": 1}
        self.found = cheapest(LINE, self.prices, ("misled", "ring"))

    def shows(self, against, hopes=("misled", "ring"), net=LINE):
        return NoRules(against).shows(net, self.prices, hopes)

    def test_as_it_is_told_and_in_another_order(self):
        against = self.found.against
        self.assertEqual(list(against), choices(LINE, self.prices))
        self.assertIs(self.shows(against), True)
        self.assertIs(self.shows(dict(reversed(list(against.items())))), True)
        self.assertIs(self.shows({choice: ("ring", list(pair[1])) for choice, pair in against.items()}), True)

    def test_a_pair_that_is_missing_or_too_many(self):
        against = self.found.against
        for choice in against:
            self.assertIs(self.shows({other: against[other] for other in against if other != choice}), False)
        self.assertIs(self.shows({}), False)
        self.assertIs(self.shows({**against, (4, "plain", "still", 3): ("ring", RING_WEAVING)}), False)
        self.assertIs(self.shows({**against, (4, "plain", "loud", 0): ("ring", RING_WEAVING)}), False)
        part = {other: against[other] for other in against if other != HELD}
        self.assertIs(self.shows({**part, (4, "plain", "still", True): against[HELD]}), False)

    def test_pairs_and_weavings(self):
        against = self.found.against
        for choice, (wish, weaving) in against.items():
            for pair in [("climb", weaving), ("sing", weaving), ("wrong", weaving), (wish, ()), (wish, weaving[:-1]),
                         (wish, (*weaving, ("tell", 0, 0)))]:
                with self.subTest(pair=pair):
                    self.assertIs(self.shows({**against, choice: pair}), False)
        self.assertIs(self.shows(against, hopes=("climb",)), False)
        self.assertIs(self.shows(against, hopes=("misled", "ring", "wrong")), True)

    def test_another_net_and_other_prices(self):
        self.assertIs(self.shows(self.found.against, net=LINE.but("cry", "loud")), False)
        self.assertIs(self.found.shows(LINE, {"hold": 9}, ("misled", "ring")), True)
        self.assertIs(self.found.shows(LINE, {"hold": 1, "cry": 1}, ("misled", "ring")), False)
        self.assertIs(self.found.shows(LINE, {"cry": 1}, ("misled", "ring")), False)


class Objects(unittest.TestCase):
    def test_equality(self):
        found = cheapest(LINE, {"hold": 1, "split": 2}, RINGS)
        parts = {"choice": found.choice, "states": found.states, "against": found.against}
        self.assertTrue(Cheapest(**parts) == found)
        self.assertFalse(Cheapest(**parts) != found)
        lists = {choice: (wish, list(weaving)) for choice, (wish, weaving) in reversed(list(found.against.items()))}
        self.assertTrue(Cheapest(found.choice, found.states, lists) == found)
        for name, other in (("choice", OWN), ("states", []), ("against", {})):
            self.assertFalse(Cheapest(**{**parts, name: other}) == found)
            self.assertTrue(Cheapest(**{**parts, name: other}) != found)
        self.assertTrue(NoRules(lists) == NoRules(found.against))
        self.assertTrue(NoRules(lists) != NoRules({}))
        self.assertFalse(NoRules(lists) == NoRules({}))

    def test_nothing_else_is_equal(self):
        for thing in (Cheapest(OWN, [], {}), NoRules({})):
            for other in [*ODD, [{}], (OWN, [], {}), Cheapest, NoRules]:
                self.assertIs(thing == other, False)
                self.assertIs(thing != other, True)
                self.assertIs(other == thing, False)
        self.assertFalse(NoRules({}) == Cheapest(OWN, [], {}))
        self.assertTrue(Cheapest(OWN, [], {}) != NoRules({}))

    def test_parts_are_copied_and_weavings_are_tuples(self):
        states, weaving = all_states(LINE), list(RING_WEAVING)
        against = {OWN: ("ring", weaving), HELD: ("misled", tuple(weaving))}
        found, none = Cheapest(POISON, states, against), NoRules(against)
        expected = {OWN: ("ring", tuple(RING_WEAVING)), HELD: ("misled", tuple(RING_WEAVING))}
        weaving.clear()
        states.clear()
        against.clear()
        for thing in (found, none):
            self.assertEqual(thing.against, expected)
            self.assertIsInstance(thing.against[OWN][1], tuple)
        self.assertEqual(found.states, all_states(LINE))
        found.against.clear()
        self.assertEqual(none.against, expected)

    def test_names_of_parameters(self):
        self.assertEqual(vars(Cheapest(choice=OWN, states=[], against={})),
                         {"choice": OWN, "states": [], "against": {}})
        self.assertEqual(vars(NoRules(against={})), {"against": {}})

    def test_shows_and_equality_look_at_the_current_attributes(self):
        prices = {"hold": 1, "split": 2}
        found, kept = cheapest(LINE, prices, RINGS), cheapest(LINE, prices, RINGS)
        for name, other in (("choice", OWN), ("states", []), ("against", {})):
            setattr(found, name, other)
            self.assertIs(found.shows(LINE, prices, RINGS), False)
            self.assertNotEqual(found, kept)
            setattr(found, name, getattr(kept, name))
            self.assertIs(found.shows(LINE, prices, RINGS), True)
            self.assertEqual(found, kept)
        none = NoRules({})
        none.against = cheapest(LINE, {"hold": 1}, RINGS).against
        self.assertIs(none.shows(LINE, {"hold": 1}, RINGS), True)
        del none.against[OWN]
        self.assertIs(none.shows(LINE, {"hold": 1}, RINGS), False)

    def test_what_is_returned_is_new(self):
        for prices, hopes in (({"hold": 1, "split": 2}, RINGS), ({"hold": 1}, RINGS)):
            found, again = cheapest(LINE, prices, hopes), cheapest(LINE, prices, hopes)
            self.assertIsNot(found, again)
            self.assertEqual(found, again)
            found.against.clear()
            self.assertIs(again.shows(LINE, prices, hopes), True)
        told = choices(LINE, {"hold": 1})
        told.clear()
        self.assertEqual(len(choices(LINE, {"hold": 1})), 3)

    def test_arguments_are_left_as_they_are(self):
        prices = {"split": 2, "hold": 1}
        found = cheapest(LINE, prices, RINGS)
        kept = cheapest(LINE, prices, RINGS)
        found.shows(LINE, prices, RINGS)
        choices(LINE, prices)
        chosen(LINE, prices, OWN)
        least_cost(LINE, prices, RINGS)
        self.assertEqual(list(prices.items()), [("split", 2), ("hold", 1)])
        self.assertEqual(found, kept)
        self.assertEqual(list(found.against), list(kept.against))
        self.assertEqual(LINE, Net(3, ((0, 1), (1, 2)), weak=(0,)))


class WrongArguments(unittest.TestCase):
    WITH_HOPES = (cheapest, least_cost, Cheapest(OWN, [], {}).shows, NoRules({}).shows)
    CALLS = WITH_HOPES + (lambda net, prices, _: choices(net, prices), chosen)

    def test_no_net(self):
        for net in NO_NETS:
            for call in self.CALLS:
                for prices, other in (({"cry": 1}, RINGS), (None, None), ({}, RINGS), ({"cry": 1}, ())):
                    with self.subTest(net=net), self.assertRaises(BadNet) as caught:
                        call(net, prices, other)
                    self.assertIsNone(caught.exception.part)

    def test_no_prices(self):
        for prices in NO_PRICES:
            for call in self.CALLS:
                for net, other in ((LINE, RINGS), (LINE, None), (TOO_LARGE, OWN)):
                    with self.subTest(prices=prices), self.assertRaises(BadPrices):
                        call(net, prices, other)

    def test_bounds_of_prices(self):
        for price in (1, 9):
            self.assertEqual(least_cost(LINE, {"cry": price}, RINGS), price)
        self.assertEqual(least_cost(LINE, {"endless": 1, "split": 9, "cry": 9, "hold": 9}, RINGS), 1)

    def test_no_hopes(self):
        for hopes in NO_HOPES:
            for call in self.WITH_HOPES:
                for net in (LINE, TOO_LARGE):
                    with self.subTest(hopes=hopes), self.assertRaises(BadWish):
                        call(net, {"cry": 1}, hopes)

    def test_no_choice_for_what_has_no_price(self):
        with self.assertRaises(BadChoice):
            chosen(LINE, {"cry": 1}, POISON)
        self.assertEqual(chosen(LINE, {"split": 1}, POISON), LINE.but("split", "poison"))
