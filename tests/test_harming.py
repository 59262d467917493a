"""[14] and harming.py of the interface."""

import unittest

from hearsayways.errors import BadNet, BadRates, BadWeaving, BadWish, TooLarge
from hearsayways.harming import Harm, NoHarm, harm, least_harm, weaving_price
from hearsayways.judging import WISHES, is_safe
from hearsayways.nets import Net
from hearsayways.tables import all_states, first_state, woven

from tests import model
from tests.samples import (
    LARGE, LINE, LONG, NO_DEEDS, NO_NETS, NO_WISHES, ODD, PAIR, RING, RING_WEAVING, TOO_LARGE, varied_nets)

RATES = (1, 5, 9)
CALM, QUIET, FAR = LINE.with_weak(()), LINE.but("split", "quiet"), LINE.but("endless", 5)
CLIMB_WEAVING = [*RING_WEAVING, ("tell", 1, 2)]
NO_RATES = [
    *ODD, (1, 5), (1, 5, 9, 9), [1, 5, 9], (1, 5, 10), (10, 5, 9), (1, -1, 9), (-1, 5, 9), (1, 5, -9), (1, 5, None),
    (1, "5", 9), (True, 5, 9), (1, False, 9), (1, 5, True), (1, 5, 10 ** 30), ((1,), 5, 9), (1, [5], 9), "159",
    {"tell": 1, "fall": 5, "come": 9}, (None, None, None), (1, 5, 9 + 0j), range(3),
]


def price(rates, weaving):
    return sum({"tell": rates[0], "fall": rates[1], "come": rates[2]}[deed[0]] for deed in weaving)


def walked_price(account, rates, wish):
    """The least price at which the wish is broken, by cheaper and cheaper prices of all states; None if it is not."""
    net = account.net
    costs = {model.Model(net).state(): 0}
    fresh = list(costs)
    while fresh:
        state = fresh.pop()
        for deed, later in account.steps[state].items():
            cost = costs[state] + price(rates, [deed])
            if cost < costs.get(later, cost + 1):
                costs[later] = cost
                fresh.append(later)
    found = [costs[state] for state in costs if wish in model.broken_in(net, state)]
    found += [costs[state] + price(rates, [deed]) for state in costs for deed in account.steps[state]
              if wish in model.broken_through(net, state, deed)]
    return min(found, default=None)


def are_floors(net, rates, wish, told, floors):
    """Whether these floors are as in a Harm with this price, told in the words of the document."""
    if floors.get(model.Model(net).state()) != told or min(floors.values()) < 0:
        return False
    for state, floor in floors.items():
        if wish in model.broken_in(net, state) and floor != 0:
            return False
        for deed in model.Model(net, state).deeds():
            rate, later = price(rates, [deed]), model.behind(net, state, deed)
            if wish in model.broken_through(net, state, deed):
                if rate < floor:
                    return False
            elif later not in floors or floors[later] + rate < floor:
                return False
    return True


def is_harm(net, rates, wish, told, weaving, floors):
    """Whether these are as in a Harm, told in the words of the document."""
    return (model.ends_broken(net, wish, weaving) and price(rates, weaving) == told
            and are_floors(net, rates, wish, told, floors))


class Examples(unittest.TestCase):
    def test_example(self):
        line, rates = Net(3, ((0, 1), (1, 2)), weak=(0,)), (1, 5, 9)
        ring = [("tell", 0, 1), ("tell", 1, 2), ("fall", 0), ("tell", 2, 1)]
        self.assertEqual(
            [[least_harm(line, rates, wish) for wish in ("ring", "misled")],
             least_harm(line.but("split", "poison"), rates, "ring"), weaving_price(line, rates, ring),
             harm(line, rates, "ring").weaving],
            [[8, 8], None, 8, [("tell", 0, 1), ("tell", 1, 2), ("fall", 0), ("tell", 2, 1)]])

    def test_prices_of_weavings(self):
        every = [("tell", 0, 1), ("fall", 0), ("come", 0), ("tell", 0, 1), ("fall", 0)]
        for rates in (RATES, (0, 0, 0), (9, 9, 9), (0, 9, 1), (7, 0, 0)):
            for many in range(len(every) + 1):
                self.assertEqual(weaving_price(LINE, rates, every[:many]), price(rates, every[:many]))
                self.assertEqual(weaving_price(LINE, rates, tuple(every[:many])), price(rates, every[:many]))
        self.assertEqual(weaving_price(TOO_LARGE, RATES, [("tell", 0, 1), ("fall", 0)]), 6)

    def test_rates_of_nothing(self):
        free = harm(LINE, (0, 0, 0), "ring")
        self.assertEqual((free.price, free.weaving), (0, RING_WEAVING))
        self.assertEqual(set(free.floors.values()), {0})
        self.assertIs(free.shows(LINE, (0, 0, 0), "ring"), True)
        self.assertEqual([least_harm(LINE, rates, "ring") for rates in ((9, 9, 9), (0, 9, 0), (9, 0, 9), (3, 0, 0))],
                         [36, 9, 27, 9])

    def test_no_harm(self):
        for net, wish in ((LINE, "climb"), (LINE, "wrong"), (CALM, "ring"), (PAIR, "misled"), (QUIET, "ring")):
            found = harm(net, RATES, wish)
            self.assertEqual(sorted(found.states, key=str), sorted(all_states(net), key=str))
            self.assertIsInstance(found, NoHarm)
            self.assertIsNone(least_harm(net, RATES, wish))
            self.assertIs(found.shows(net, RATES, wish), True)


class AgainstAWalk(unittest.TestCase):
    def check(self, account, rates, wish):
        net = account.net
        found, least = harm(net, rates, wish), walked_price(account, rates, wish)
        self.assertEqual(least_harm(net, rates, wish), least)
        self.assertIs(found.shows(net, rates, wish), True)
        self.assertIs(is_safe(net, wish), least is None)
        if least is None:
            self.assertIsInstance(found, NoHarm)
            self.assertEqual(set(found.states), set(account.steps))
            return
        self.assertIsInstance(found, Harm)
        self.assertEqual(found.price, least)
        self.assertIsInstance(found.weaving, list)
        self.assertTrue(is_harm(net, rates, wish, found.price, found.weaving, found.floors))
        self.assertEqual(weaving_price(net, rates, found.weaving), least)

    def test_varied_nets(self):
        every = [(1, 5, 9), (0, 0, 0), (9, 9, 9), (0, 1, 9), (9, 1, 0), (2, 0, 3), (1, 1, 1)]
        for at, net in enumerate(varied_nets()):
            account, rates = model.Account(net), every[at % len(every)]
            with self.subTest(net=vars(net), rates=rates):
                if len(account.steps) > 800:
                    for call in (harm, least_harm):
                        with self.assertRaises(TooLarge):
                            call(net, rates, "ring")
                    continue
                for wish in WISHES:
                    self.check(account, rates, wish)

    def test_many_rates(self):
        nets = (LINE, FAR, RING.but("hold", 1), RING.but("split", "poison").but("endless", 5),
                Net(4, ((0, 1), (1, 2), (1, 3), (2, 3)), weak=(0, 2), endless=5, split="poison"))
        for net in nets:
            account = model.Account(net)
            for rates in ((0, 0, 9), (0, 9, 0), (9, 0, 0), (1, 2, 3), (9, 8, 7), (5, 0, 1)):
                for wish in WISHES:
                    with self.subTest(net=vars(net), rates=rates, wish=wish):
                        self.check(account, rates, wish)

    def test_up_to_800_states(self):
        for wish in WISHES:
            self.assertIs(harm(LARGE, RATES, wish).shows(LARGE, RATES, wish), True)

    def test_more_than_800_states(self):
        for call in (harm, least_harm):
            for wish in WISHES:
                with self.assertRaises(TooLarge):
                    call(TOO_LARGE, (0, 0, 0), wish)


class HarmShows(unittest.TestCase):
    def setUp(self):
        self.found = harm(LINE, RATES, "ring")
        self.first = first_state(LINE)

    def shows(self, told=None, weaving=None, floors=None, net=LINE, rates=RATES, wish="ring"):
        return Harm(self.found.price if told is None else told, self.found.weaving if weaving is None else weaving,
                    self.found.floors if floors is None else floors).shows(net, rates, wish)

    def test_as_it_is_told_and_in_another_order(self):
        self.assertIs(self.shows(), True)
        self.assertIs(self.shows(floors=dict(reversed(list(self.found.floors.items())))), True)

    def test_a_price_that_is_greater_or_less(self):
        for told in (0, 7, 9, -8, 80, 10 ** 30, True, False):
            self.assertIs(self.shows(told=told), False)
            self.assertIs(self.shows(told=told, floors={**self.found.floors, self.first: told}), False)
        less = {state: max(floor - 1, 0) for state, floor in self.found.floors.items()}
        self.assertIs(self.shows(told=7, floors=less), False)
        self.assertIs(self.shows(floors=less), False)
        # One that costs as much as is told, but is not the cheapest.
        dear = [("tell", 0, 1), *self.found.weaving]
        self.assertEqual(price(RATES, dear), 9)
        for floors in (self.found.floors, {**self.found.floors, self.first: 9},
                       {state: floor + 1 for state, floor in self.found.floors.items()},
                       {state: floor and floor + 1 for state, floor in self.found.floors.items()}):
            self.assertIs(self.shows(told=9, weaving=dear, floors=floors), False)

    def test_a_price_of_nothing(self):
        free = (0, 0, 0)
        zero = {state: 0 for state in self.found.floors}
        self.assertIs(self.shows(told=0, floors=zero, rates=free), True)
        self.assertIs(self.shows(told=0, weaving=[("tell", 1, 2), *RING_WEAVING], floors=zero, rates=free), True)
        self.assertIs(self.shows(told=False, floors=zero, rates=free), False)
        self.assertIs(self.shows(told=0, floors={**zero, self.first: False}, rates=free), False)
        self.assertIs(self.shows(told=0, weaving=[], floors=zero, rates=free), False)
        self.assertIs(self.shows(told=0, weaving=RING_WEAVING[:3], floors=zero, rates=free), False)

    def test_a_weaving_of_another_price(self):
        for weaving in ([*RING_WEAVING, ("tell", 1, 2)], [("tell", 0, 1), *RING_WEAVING],
                        [("fall", 0), ("come", 0), *RING_WEAVING]):
            self.assertIs(self.shows(weaving=weaving), False)

    def test_a_weaving_that_cannot_be_done(self):
        for deed in NO_DEEDS:
            with self.subTest(deed=deed):
                self.assertIs(self.shows(weaving=[deed, *RING_WEAVING]), False)
                self.assertIs(self.shows(weaving=[*RING_WEAVING[:3], deed]), False)
        for at, deed in enumerate([("tell", False, 1), ("tell", True, 2), ("fall", False), ("tell", 2, True)]):
            self.assertIs(self.shows(weaving=RING_WEAVING[:at] + [deed] + RING_WEAVING[at + 1:]), False)
        self.assertIs(self.shows(weaving=RING_WEAVING[::-1]), False)

    def test_a_weaving_whose_last_deed_does_not_break_the_wish(self):
        other = [("tell", 0, 1), ("tell", 0, 1), ("fall", 0), ("tell", 1, 2)]
        self.assertEqual(price(RATES, other), 8)
        self.assertIs(self.shows(weaving=other), False)
        self.assertIs(self.shows(weaving=[]), False)
        # The ring is there still behind this deed, but nobody is misled by it.
        free = (1, 5, 0)
        for wish in ("ring", "misled"):
            found = harm(LINE, free, wish)
            longer = Harm(found.price, [*found.weaving, ("come", 0)], found.floors)
            self.assertEqual((found.price, longer.shows(LINE, free, wish)), (8, wish == "ring"))

    def test_a_floor_too_great(self):
        for state, floor in self.found.floors.items():
            self.assertIs(self.shows(floors={**self.found.floors, state: 100}), False)
            if state != self.first:
                floors = {**self.found.floors, state: floor + 1}
                self.assertIs(self.shows(floors=floors), are_floors(LINE, RATES, "ring", 8, floors))
        broken = [state for state in self.found.floors if "ring" in model.broken_in(LINE, state)]
        self.assertGreater(len(broken), 1)
        for state in broken:
            self.assertEqual(self.found.floors[state], 0)
            self.assertIs(self.shows(floors={**self.found.floors, state: 1}), False)

    def test_a_floor_that_is_less(self):
        for state, floor in self.found.floors.items():
            for less in range(floor):
                floors = {**self.found.floors, state: less}
                self.assertIs(self.shows(floors=floors), are_floors(LINE, RATES, "ring", 8, floors))
        self.assertIs(self.shows(floors={state: 0 for state in self.found.floors}), False)

    def test_a_floor_missing(self):
        for state in self.found.floors:
            part = {other: self.found.floors[other] for other in self.found.floors if other != state}
            self.assertIs(self.shows(floors=part), False)
        self.assertIs(self.shows(floors={}), False)
        self.assertIs(self.shows(floors={self.first: 8}), False)

    def test_a_floor_that_is_negative_or_no_integer(self):
        for state, floor in self.found.floors.items():
            if floor == 0:
                self.assertIs(self.shows(floors={**self.found.floors, state: -1}), False)
            for thing in (None, "8", (8,), floor + 0j, False if floor == 0 else True):
                self.assertIs(self.shows(floors={**self.found.floors, state: thing}), False)

    def test_behind_a_deed_that_breaks_the_wish_no_state_is_asked_for(self):
        found = harm(FAR, RATES, "climb")
        self.assertEqual((found.price, found.weaving), (9, CLIMB_WEAVING))
        late, climbed = woven(FAR, CLIMB_WEAVING)[-2:]
        floors, fresh = {}, [(first_state(FAR), 9)]
        while fresh:
            state, floor = fresh.pop()
            if floors.get(state, -1) < floor:
                floors[state] = floor
                for deed in model.Model(FAR, state).deeds():
                    if "climb" not in model.broken_through(FAR, state, deed):
                        fresh.append((model.behind(FAR, state, deed), max(floor - price(RATES, [deed]), 0)))
        # To this state one comes by a climb only.
        self.assertIn(climbed, found.floors)
        self.assertNotIn(climbed, floors)
        self.assertIs(Harm(9, CLIMB_WEAVING, floors).shows(FAR, RATES, "climb"), True)
        self.assertEqual(floors[late], 1)
        self.assertIs(Harm(9, CLIMB_WEAVING, {**floors, late: 2}).shows(FAR, RATES, "climb"), False)

    def test_keys_that_are_no_states(self):
        known = (((1, 0, 0), (2, 1, 0)), (True, True))
        part = {state: floor for state, floor in self.found.floors.items() if state != known}
        for key in ((((True, 0, 0), (2, 1, 0)), (True, True)), (((1, 0, 0), (2, 1, 0)), (1, 1)),
                    (((1, False, 0), (2, 1, 0)), (True, True))):
            self.assertEqual(key, known)
            self.assertIs(self.shows(floors={**part, key: self.found.floors[known]}), False)
        for key in (None, 3, "", (((4, None, 1), (4, None, 0)), (True, True))):
            self.assertIs(self.shows(floors={**self.found.floors, key: 0}), False)

    def test_another_net_other_rates_and_another_wish(self):
        for net in (CALM, QUIET, FAR, RING, LINE.but("hold", 1), LINE.but("cry", "loud")):
            self.assertIs(self.shows(net=net), False)
        for rates in ((1, 4, 9), (1, 6, 9), (2, 5, 9), (2, 2, 9), (0, 8, 9)):
            self.assertIs(self.shows(rates=rates), is_harm(LINE, rates, "ring", 8, RING_WEAVING, self.found.floors))
        self.assertIs(self.shows(rates=(1, 5, 8)), True)
        self.assertIs(self.shows(wish="climb"), False)
        self.assertIs(self.shows(wish="wrong"), False)
        self.assertIs(self.shows(wish="misled"), is_harm(LINE, RATES, "misled", 8, RING_WEAVING, self.found.floors))

    def test_parts_of_others_against_the_words_of_the_document(self):
        cases = [(net, rates, wish) for net in (LINE, FAR, LINE.but("hold", 1)) for wish in ("climb", "misled", "ring")
                 for rates in (RATES, (1, 1, 1), (0, 2, 0), (2, 1, 0))]
        told = [found for found in [harm(*case) for case in cases] if isinstance(found, Harm)]
        for net, rates, wish in cases:
            for at, one in enumerate(told):
                for floors in (one.floors, told[at - 1].floors, told[at - 4].floors):
                    expected = (all(model.is_state(net, state) for state in floors)
                                and is_harm(net, rates, wish, one.price, one.weaving, floors))
                    self.assertIs(Harm(one.price, one.weaving, floors).shows(net, rates, wish), expected)

    def test_more_than_800_states_are_no_matter(self):
        net = Net(4, ((0, 1), (0, 2), (1, 2), (1, 3), (2, 3)), weak=(0, 1, 2), hold=2)
        states = list(model.come_about(net))
        self.assertGreater(len(states), 800)
        weaving = [*RING_WEAVING, ("tell", 2, 1), ("tell", 2, 1)]
        floors = {state: 0 for state in states}
        self.assertIs(Harm(0, weaving, floors).shows(net, (0, 0, 0), "ring"), True)
        floors.pop(states[0])
        self.assertIs(Harm(0, weaving, floors).shows(net, (0, 0, 0), "ring"), False)


class NoHarmShows(unittest.TestCase):
    def test_as_it_is_told_and_in_another_order(self):
        for net, wish in ((CALM, "ring"), (QUIET, "ring"), (LINE, "climb"), (RING, "wrong")):
            found = harm(net, RATES, wish)
            for rates in (RATES, (0, 0, 0)):
                self.assertIs(found.shows(net, rates, wish), True)
                self.assertIs(NoHarm(found.states[::-1] * 2).shows(net, rates, wish), True)

    def test_a_state_too_few(self):
        for net, wish in ((CALM, "ring"), (LINE, "climb")):
            found = harm(net, RATES, wish)
            for state in found.states:
                part = [other for other in found.states if other != state]
                self.assertIs(NoHarm(part).shows(net, RATES, wish), False)
            self.assertIs(NoHarm([]).shows(net, RATES, wish), False)

    def test_where_there_is_harm(self):
        states = all_states(LINE)
        self.assertEqual([NoHarm(states).shows(LINE, RATES, wish) for wish in WISHES], [True, False, False, True])
        self.assertEqual([NoHarm(all_states(FAR)).shows(FAR, RATES, wish) for wish in WISHES],
                         [False, False, False, True])

    def test_what_is_no_state_of_the_net(self):
        states = all_states(CALM)
        changed = [(entries, (1, 1)) for entries, _ in states]
        self.assertEqual(changed, states)
        self.assertIs(NoHarm(changed).shows(CALM, RATES, "ring"), False)
        self.assertIs(NoHarm([*states, None]).shows(CALM, RATES, "ring"), False)
        self.assertIs(NoHarm(states).shows(LINE, RATES, "climb"), False)

    def test_more_than_800_states_are_no_matter(self):
        states = list(model.come_about(TOO_LARGE))
        self.assertIs(NoHarm(states).shows(TOO_LARGE, RATES, "wrong"), True)
        self.assertIs(NoHarm(states[1:]).shows(TOO_LARGE, RATES, "wrong"), False)


class Objects(unittest.TestCase):
    def test_equality(self):
        found = harm(LINE, RATES, "ring")
        parts = {"price": 8, "weaving": RING_WEAVING, "floors": dict(reversed(list(found.floors.items())))}
        self.assertTrue(Harm(**parts) == found)
        self.assertFalse(Harm(**parts) != found)
        for name, thing in (("price", 7), ("weaving", []), ("floors", {})):
            self.assertFalse(Harm(**{**parts, name: thing}) == found)
            self.assertTrue(Harm(**{**parts, name: thing}) != found)
        states = all_states(CALM)
        self.assertTrue(NoHarm(states) == NoHarm(list(states)))
        self.assertFalse(NoHarm(states) != NoHarm(list(states)))
        self.assertFalse(NoHarm(states) == NoHarm(states[::-1]))
        self.assertTrue(NoHarm(states) != NoHarm([]))

    def test_nothing_else_is_equal(self):
        things = [Harm(0, [], {}), NoHarm([])]
        for at, thing in enumerate(things):
            for other in [*ODD, [[]], (0, [], {}), Harm, NoHarm, things[1 - at]]:
                self.assertIs(thing == other, False)
                self.assertIs(thing != other, True)
                self.assertIs(other == thing, False)

    def test_lists_and_dict_are_copied(self):
        weaving, floors, states = list(RING_WEAVING), {first_state(LINE): 8}, all_states(CALM)
        found, none = Harm(price=8, weaving=weaving, floors=floors), NoHarm(states=states)
        weaving.clear()
        floors.clear()
        states.clear()
        self.assertEqual(vars(found), {"price": 8, "weaving": RING_WEAVING, "floors": {first_state(LINE): 8}})
        self.assertEqual(vars(none), {"states": all_states(CALM)})
        self.assertIsInstance(found.weaving, list)
        found.weaving.clear()
        found.floors.clear()
        none.states.clear()
        self.assertEqual((weaving, floors, states), ([], {}, []))
        self.assertEqual(Harm(8, tuple(RING_WEAVING), {}).weaving, RING_WEAVING)

    def test_shows_and_equality_look_at_the_current_attributes(self):
        found, kept = harm(LINE, RATES, "ring"), harm(LINE, RATES, "ring")
        for name, other in (("price", 7), ("weaving", []), ("floors", {})):
            setattr(found, name, other)
            self.assertIs(found.shows(LINE, RATES, "ring"), False)
            self.assertNotEqual(found, kept)
            setattr(found, name, getattr(kept, name))
            self.assertIs(found.shows(LINE, RATES, "ring"), True)
            self.assertEqual(found, kept)
        none = NoHarm([])
        none.states.extend(all_states(CALM))
        self.assertIs(none.shows(CALM, RATES, "ring"), True)
        none.states.pop()
        self.assertIs(none.shows(CALM, RATES, "ring"), False)

    def test_what_is_returned_is_new(self):
        for net in (LINE, CALM):
            found, again = harm(net, RATES, "ring"), harm(net, RATES, "ring")
            self.assertIsNot(found, again)
            self.assertEqual(found, again)
            for thing in vars(found).values():
                if not isinstance(thing, int):
                    thing.clear()
            self.assertIs(again.shows(net, RATES, "ring"), True)
            self.assertEqual(harm(net, RATES, "ring"), again)

    def test_arguments_are_left_as_they_are(self):
        weaving = list(RING_WEAVING)
        weaving_price(LINE, RATES, weaving)
        self.assertEqual(weaving, RING_WEAVING)
        found, kept = harm(LINE, RATES, "ring"), harm(LINE, RATES, "ring")
        for wish in WISHES:
            found.shows(LINE, RATES, wish)
        self.assertEqual(found, kept)
        self.assertEqual(list(found.floors), list(kept.floors))
        self.assertEqual(LINE, Net(3, ((0, 1), (1, 2)), weak=(0,)))


class WrongArguments(unittest.TestCase):
    WITH_WISH = (harm, least_harm, Harm(0, [], {}).shows, Harm(8, RING_WEAVING, {}).shows, NoHarm([]).shows)

    def refuse(self, error, call, *arguments):
        with self.subTest(arguments=arguments), self.assertRaises(error) as caught:
            call(*arguments)
        self.assertIs(type(caught.exception), error)
        return caught.exception

    def test_no_net(self):
        for net in NO_NETS:
            for call in (*self.WITH_WISH, weaving_price):
                for rates, other in ((RATES, "ring"), (RATES, []), (None, "ring"), (None, None), ((1, 5), None)):
                    self.assertIsNone(self.refuse(BadNet, call, net, rates, other).part)

    def test_no_rates(self):
        for rates in NO_RATES:
            for call in (*self.WITH_WISH, weaving_price):
                for net, other in ((LINE, "ring"), (LINE, None), (TOO_LARGE, []), (LINE, [None])):
                    self.refuse(BadRates, call, net, rates, other)

    def test_no_wish(self):
        for wish in NO_WISHES:
            for call in self.WITH_WISH:
                for net in (LINE, TOO_LARGE):
                    self.refuse(BadWish, call, net, RATES, wish)

    def test_no_weaving(self):
        for weaving in (None, "", "ring", b"", {}, 0, True, set(), iter([]), object(), LINE, Harm(0, [], {})):
            self.assertIsNone(self.refuse(BadWeaving, weaving_price, LINE, RATES, weaving).index)
        for deed in NO_DEEDS + ODD + [["tell", 0, 1]]:
            for ahead in ([], [("tell", 0, 1), ("tell", 0, 1)]):
                found = self.refuse(BadWeaving, weaving_price, LINE, RATES, [*ahead, deed, None])
                self.assertEqual(found.index, len(ahead))

    def test_bounds_of_rates(self):
        for rates in ((0, 0, 0), (9, 9, 9), (0, 9, 0)):
            self.assertEqual(least_harm(LINE, rates, "ring"), price(rates, RING_WEAVING))
