"""[10] and pictures.py of the interface."""

import unittest

from hearsayways.errors import BadNet, TooLarge, Unlike
from hearsayways.nets import Net
from hearsayways.pictures import Alike, Parted, Pictures, are_alike, compare, pictured, pictures
from hearsayways.tables import all_states, first_state

from tests import model
from tests.samples import (
    LARGE, LINE, LONG, NO_DEEDS, NO_NETS, ODD, PAIR, RING, RING_WEAVING, TOO_LARGE, varied_nets)

CALM, LOUD = LINE.with_weak(()), LINE.but("cry", "loud")
QUIET = LINE.but("split", "quiet")
KNOWN = [("tell", 0, 1), ("tell", 1, 2)]
WAYS = {(1, 2): KNOWN, (1, 4): KNOWN[:1], (4, 4): []}


def seen(states):
    """The pictures of these states."""
    return {tuple(distance for distance, _, _ in entries) for entries, _ in states}


def is_way(net, weaving, picture):
    """Whether these deeds are a weaving to a state with the picture, told in the words of the document."""
    told = model.Model(net)
    for deed in weaving:
        if deed not in told.deeds():
            return False
        told.do(deed)
    return tuple(told.distance.values()) == picture


def are_closed(net, states):
    """Whether the first state is among these, and each all to which deeds lead."""
    return model.Model(net).state() in states and model.closure(net, states) == set(states)


class Examples(unittest.TestCase):
    def test_example(self):
        net = Net(3, ((0, 1), (1, 2)), weak=(0,))
        calm, loud = net.with_weak(()), net.but("cry", "loud")
        self.assertEqual(
            [pictures(net), pictures(calm), are_alike(calm, loud), compare(net, calm).number,
             compare(calm, net).number],
            [[(1, 2), (1, 4), (3, 2), (3, 4), (4, 2), (4, 4)], [(1, 2), (1, 4), (4, 4)], True, 0, 1])

    def test_all_of_a_small_net(self):
        near = Net(2, ((0, 1),))
        first, known = first_state(near), (((1, 0, 0),), (True,))
        self.assertEqual(pictured(near), Pictures({(1,): [("tell", 0, 1)], (4,): []}, [first, known]))
        self.assertEqual(pictures(PAIR), [(1,), (4,)])
        self.assertTrue(are_alike(PAIR, near))
        self.assertEqual(compare(near, near), Alike(pictured(near), pictured(near)))

    def test_hosts_apart(self):
        apart = Net(4, ((2, 3),))
        self.assertEqual(pictured(apart), Pictures({(4, 4, 4): ()}, [first_state(apart)]))
        found = compare(apart, Net(4, ((0, 3), (2, 3))))
        self.assertEqual((found.number, found.states), (1, [first_state(apart)]))


class AgainstAWalk(unittest.TestCase):
    def test_all_pictures(self):
        for net in varied_nets():
            states = model.come_about(net)
            with self.subTest(net=vars(net)):
                if len(states) > 800:
                    for call in (pictures, pictured):
                        with self.assertRaises(TooLarge):
                            call(net)
                    continue
                told = pictured(net)
                self.assertEqual(pictures(net), sorted(seen(states)))
                self.assertEqual(list(told.weavings), sorted(seen(states)))
                for picture, weaving in told.weavings.items():
                    self.assertIsInstance(weaving, tuple)
                    self.assertTrue(is_way(net, weaving, picture))
                self.assertEqual(set(told.states), states)
                self.assertIs(told.shows(net), True)

    def compare(self, one, other):
        first, second = seen(model.come_about(one)), seen(model.come_about(other))
        found = compare(one, other)
        self.assertIs(are_alike(one, other), first == second)
        self.assertIs(found.shows(one, other), True)
        if first == second:
            self.assertIsInstance(found, Alike)
            self.assertEqual((set(found.one.weavings), set(found.other.weavings)), (first, second))
            self.assertIs(found.one.shows(one), True)
            self.assertIs(found.other.shows(other), True)
            return
        self.assertIsInstance(found, Parted)
        having, lacking = ((one, first), (other, second))[::1 if found.number == 0 else -1]
        self.assertIn(found.number, (0, 1))
        self.assertIn(found.picture, having[1])
        self.assertNotIn(found.picture, lacking[1])
        self.assertIsInstance(found.weaving, tuple)
        self.assertTrue(is_way(having[0], found.weaving, found.picture))
        self.assertEqual(set(found.states), model.come_about(lacking[0]))

    def test_which_net_has_a_picture_alone(self):
        nets = [LINE, CALM, LOUD, QUIET, RING, RING.with_weak((1,)), LINE.but("endless", 5), LINE.but("hold", 2),
                RING.but("cry", "loud").but("split", "poison"), Net(3, ((0, 2), (1, 2)), weak=(0,)), Net(3, ((0, 1),))]
        for one in nets:
            for other in nets:
                with self.subTest(one=vars(one), other=vars(other)):
                    self.compare(one, other)

    def test_each_has_one_alone(self):
        turned = Net(3, ((0, 2), (1, 2)), weak=(0,))
        found = compare(LINE, turned)
        self.assertIs(found.shows(LINE, turned), True)
        for number, picture, weaving, states in ((0, (1, 2), KNOWN, all_states(turned)),
                                                 (1, (2, 1), [("tell", 0, 2), ("tell", 2, 1)], all_states(LINE))):
            self.assertIs(Parted(picture, number, weaving, states).shows(LINE, turned), True)
            self.assertIs(Parted(picture, 1 - number, weaving, states).shows(LINE, turned), False)
            self.assertIs(Parted(picture, 1 - number, weaving, states).shows(turned, LINE), True)

    def test_two_and_four_hosts(self):
        self.compare(PAIR, PAIR.but("endless", 2))
        self.compare(PAIR, PAIR.but("hold", 2))
        self.compare(Net(4, ((0, 1), (1, 2), (2, 3))), Net(4, ((0, 1), (1, 2), (2, 3)), weak=(2,)))
        self.compare(LONG.but("cry", "loud"), LONG.with_weak(()))

    def test_up_to_800_states(self):
        self.assertIs(pictured(LARGE).shows(LARGE), True)
        self.assertIs(compare(LARGE, LARGE).shows(LARGE, LARGE), True)
        calm = LARGE.with_weak(())
        self.assertIs(compare(calm, LARGE).shows(calm, LARGE), True)

    def test_more_than_800_states(self):
        calm = TOO_LARGE.with_weak(())
        for call in (pictures, pictured):
            with self.assertRaises(TooLarge):
                call(TOO_LARGE)
        for call in (compare, are_alike):
            for one, other in ((calm, TOO_LARGE), (TOO_LARGE, calm), (TOO_LARGE, TOO_LARGE)):
                with self.assertRaises(TooLarge):
                    call(one, other)


class PicturesShow(unittest.TestCase):
    def shows(self, weavings=None, states=None, net=CALM):
        return Pictures(WAYS if weavings is None else weavings,
                        all_states(CALM) if states is None else states).shows(net)

    def test_as_it_is_told_and_in_another_order(self):
        self.assertEqual(Pictures(WAYS, all_states(CALM)), pictured(CALM))
        self.assertIs(self.shows(), True)
        self.assertIs(self.shows(weavings=dict(reversed(list(WAYS.items())))), True)
        self.assertIs(self.shows(states=all_states(CALM)[::-1] * 2), True)
        self.assertIs(self.shows(weavings={**WAYS, (1, 2): [*KNOWN, ("tell", 2, 1)]}), True)
        self.assertIs(self.shows(weavings={**WAYS, (4, 4): (("tell", 1, 2),)}), True)

    def test_a_weaving_to_another_picture(self):
        for picture in WAYS:
            for other, weaving in WAYS.items():
                self.assertIs(self.shows(weavings={**WAYS, picture: weaving}), picture == other)

    def test_a_weaving_that_cannot_be_done(self):
        for deed in NO_DEEDS:
            with self.subTest(deed=deed):
                self.assertIs(self.shows(weavings={**WAYS, (4, 4): [deed]}), False)
                self.assertIs(self.shows(weavings={**WAYS, (1, 2): [*KNOWN, deed]}), False)
        self.assertIs(self.shows(weavings={**WAYS, (1, 2): [("tell", 0, 1), ("tell", True, 2)]}), False)
        self.assertIs(self.shows(weavings={**WAYS, (4, 4): [("fall", 0)]}), False)

    def test_a_picture_too_few(self):
        for picture in WAYS:
            part = {other: WAYS[other] for other in WAYS if other != picture}
            self.assertIs(self.shows(weavings=part), False)
        self.assertIs(self.shows(weavings={}), False)

    def test_a_picture_too_many(self):
        for picture in ((3, 2), (4, 2), (1,), (1, 2, 3), (), (0, 1, 2), (5, 5)):
            for weaving in ([], KNOWN, RING_WEAVING):
                self.assertIs(self.shows(weavings={**WAYS, picture: weaving}), False)

    def test_booleans_are_no_distances(self):
        part = {(True, 2): KNOWN, (1, 4): KNOWN[:1], (4, 4): []}
        self.assertEqual(part, WAYS)
        self.assertIs(self.shows(weavings=part), False)

    def test_a_state_too_few(self):
        for net in (CALM, LINE, RING):
            told = pictured(net)
            for state in told.states:
                part = [other for other in told.states if other != state]
                self.assertIs(Pictures(told.weavings, part).shows(net), False)
        self.assertIs(self.shows(states=[]), False)

    def test_states_that_do_not_come_about(self):
        # All three of these lead to states that come about, and the first two have the pictures of others.
        for odd, expected in (((1, 0, 0), (2, 1, 0)), True), (((1, 0, 0), (3, 1, 0)), False), \
                (((2, 0, 0), (2, 1, 0)), False):
            states = all_states(CALM) + sorted(model.closure(CALM, [(odd, (True, True))]), key=str)
            self.assertIs(seen(states) == set(WAYS), expected)
            self.assertIs(self.shows(states=states), expected)
        held = CALM.but("hold", 2)
        odd = [(((4, None, 2), (4, None, 0)), (True, True))]
        self.assertIs(pictured(held).shows(held), True)
        self.assertNotIn(odd[0], all_states(held))
        more = sorted(model.closure(held, odd), key=str)
        self.assertIs(Pictures(WAYS, all_states(held) + more).shows(held), True)
        self.assertIs(Pictures(WAYS, all_states(held) + odd).shows(held), False)

    def test_what_is_no_state_of_the_net(self):
        for state in ((((True, 0, 0), (2, 1, 0)), (True, True)), (((1, 0, 0), (2, 1, 0)), (1, 1)),
                      (((1, 0, 0), (2, 1, 0)), (False, True)), None, 3):
            self.assertIs(self.shows(states=[*all_states(CALM), state]), False)

    def test_another_net(self):
        for net in (LINE, RING, CALM.but("endless", 5), CALM.but("endless", 2)):
            self.assertIs(self.shows(net=net), False)
        for net in (CALM.but("cry", "loud"), CALM.but("hold", 2), CALM.but("split", "poison")):
            self.assertIs(self.shows(net=net), True)
        # A quiet host 2 tells nothing back, which is as well here.
        self.assertIs(self.shows(net=CALM.but("split", "quiet")), True)

    def test_parts_of_other_nets_against_the_words_of_the_document(self):
        nets = [LINE, LOUD, CALM, QUIET, LINE.but("split", "poison"), CALM.but("endless", 5)]
        told = [pictured(net) for net in nets]
        for net in nets:
            for one in told:
                for other in told:
                    expected = (all(is_way(net, one.weavings[picture], picture) for picture in one.weavings)
                                and all(model.is_state(net, state) for state in other.states)
                                and are_closed(net, other.states) and seen(other.states) <= set(one.weavings))
                    self.assertIs(Pictures(one.weavings, other.states).shows(net), expected)

    def test_more_than_800_states_are_no_matter(self):
        states = list(model.come_about(TOO_LARGE))
        weavings, fresh, found = {}, [[]], set()
        while fresh:
            weaving = fresh.pop(0)
            told = model.Model(TOO_LARGE)
            for deed in weaving:
                told.do(deed)
            if told.state() not in found:
                found.add(told.state())
                weavings.setdefault(tuple(told.distance.values()), weaving)
                fresh += [[*weaving, deed] for deed in told.deeds()]
        self.assertIs(Pictures(weavings, states).shows(TOO_LARGE), True)
        self.assertIs(Pictures(weavings, states[1:]).shows(TOO_LARGE), False)
        calm = TOO_LARGE.with_weak(())
        other = next(picture for picture in weavings if picture not in pictures(calm))
        parted = Parted(other, 1, weavings[other], all_states(calm))
        self.assertIs(parted.shows(calm, TOO_LARGE), True)


class AlikeShows(unittest.TestCase):
    def test_as_it_is_told(self):
        self.assertIs(compare(CALM, LOUD).shows(CALM, LOUD), True)
        self.assertIs(compare(CALM, LOUD).shows(LOUD, CALM), False)
        self.assertIs(compare(CALM, CALM).shows(CALM, CALM), True)

    def test_both_are_looked_at(self):
        one, other = pictured(CALM), pictured(LOUD)
        self.assertIs(Alike(one, other).shows(CALM, LOUD), True)
        for picture in one.weavings:
            for told in (one, other):
                part = Pictures({key: told.weavings[key] for key in told.weavings if key != picture}, told.states)
                pair = (part, other) if told is one else (one, part)
                self.assertIs(Alike(*pair).shows(CALM, LOUD), False)
        for told in (one, other):
            for state in told.states:
                part = Pictures(told.weavings, [kept for kept in told.states if kept != state])
                pair = (part, other) if told is one else (one, part)
                self.assertIs(Alike(*pair).shows(CALM, LOUD), False)

    def test_nets_that_are_not_alike(self):
        self.assertIs(Alike(pictured(LINE), pictured(CALM)).shows(LINE, CALM), False)
        self.assertIs(Alike(pictured(CALM), pictured(LINE)).shows(CALM, LINE), False)
        self.assertIs(Alike(pictured(CALM), pictured(CALM)).shows(CALM, LINE), False)

    def test_in_another_order(self):
        found = compare(CALM, LOUD)
        found.one.weavings = dict(reversed(list(found.one.weavings.items())))
        found.other.states.reverse()
        self.assertIs(found.shows(CALM, LOUD), True)


class PartedShows(unittest.TestCase):
    def setUp(self):
        self.late = [*KNOWN, ("fall", 0)]

    def shows(self, picture=(4, 2), number=0, weaving=None, states=None, one=LINE, other=CALM):
        return Parted(picture, number, self.late if weaving is None else weaving,
                      all_states(CALM) if states is None else states).shows(one, other)

    def test_as_it_is_told(self):
        self.assertIs(self.shows(), True)
        self.assertIs(self.shows(picture=(3, 2), weaving=RING_WEAVING), True)
        self.assertIs(self.shows(states=all_states(CALM)[::-1] * 2), True)
        self.assertIs(self.shows(weaving=tuple(self.late)), True)
        self.assertIs(self.shows(number=1, one=CALM, other=LINE), True)

    def test_the_number(self):
        for number in (1, 2, -1, 10 ** 30, True, False):
            self.assertIs(self.shows(number=number), False)
        for number in (0, 2, -1, True):
            self.assertIs(self.shows(number=number, one=CALM, other=LINE), False)

    def test_the_picture(self):
        for picture in ((1, 2), (4, 4), (3, 2), (4, 3), (4,), (4, 2, 1), (), (0, 4, 2), (5, 2), (True, 2)):
            self.assertIs(self.shows(picture=picture), False)
        # One that both have is none.
        self.assertIs(self.shows(picture=(1, 2), weaving=KNOWN), False)
        self.assertIs(self.shows(picture=(True, 2), weaving=KNOWN, states=[], other=LINE), False)

    def test_the_weaving(self):
        for weaving in ([], KNOWN, RING_WEAVING, [*self.late, ("fall", 0)], [*self.late, ("come", 0), ("tell", 0, 1)]):
            self.assertIs(self.shows(weaving=weaving), False)
        for deed in NO_DEEDS:
            self.assertIs(self.shows(weaving=[deed, *self.late]), False)
            self.assertIs(self.shows(weaving=[*self.late[:2], deed]), False)
        self.assertIs(self.shows(weaving=[("tell", False, 1), *self.late[1:]]), False)

    def test_the_states(self):
        for state in all_states(CALM):
            self.assertIs(self.shows(states=[other for other in all_states(CALM) if other != state]), False)
        self.assertIs(self.shows(states=[]), False)
        self.assertIs(self.shows(states=all_states(LINE)), False)
        # Closed, but with a state that has the picture.
        odd = (((4, None, 0), (2, 1, 0)), (True, True))
        more = sorted(model.closure(CALM, [odd]), key=str)
        self.assertIn((4, 2), seen(more))
        self.assertIs(self.shows(states=all_states(CALM) + more), False)
        self.assertIs(self.shows(states=[*all_states(CALM), None]), False)

    def test_states_that_do_not_come_about(self):
        for odd in (((1, 0, 0), (3, 1, 0)), ((3, 0, 0), (3, 1, 0)), ((3, 0, 0), (4, None, 0))):
            more = sorted(model.closure(CALM, [(odd, (True, True))]), key=str)
            self.assertNotIn((4, 2), seen(more))
            self.assertIs(self.shows(states=all_states(CALM) + more), True)
        self.assertIs(self.shows(states=[*all_states(CALM), (((3, 0, 0), (3, 1, 0)), (True, True))]), False)

    def test_the_states_of_one_that_is_no_state(self):
        changed = [(entries, (1, 1)) for entries, _ in all_states(CALM)]
        self.assertEqual(changed, all_states(CALM))
        self.assertIs(self.shows(states=changed), False)

    def test_other_nets(self):
        self.assertIs(self.shows(other=LINE), False)
        self.assertIs(self.shows(one=CALM), False)
        self.assertIs(self.shows(other=RING), False)
        # The weaving can be done here, and host 2 hears of the fall, too.
        self.assertIs(self.shows(one=LOUD), False)
        self.assertIs(self.shows(one=QUIET), True)


class Objects(unittest.TestCase):
    def test_equality(self):
        found = pictured(CALM)
        again = Pictures(dict(reversed(list(WAYS.items()))), found.states)
        self.assertTrue(found == again)
        self.assertFalse(found != again)
        for other in (Pictures({}, found.states), Pictures(WAYS, []), Pictures(WAYS, found.states[::-1])):
            self.assertFalse(found == other)
            self.assertTrue(found != other)
        one, other = pictured(CALM), pictured(LOUD)
        self.assertTrue(Alike(one, other) == Alike(again, other))
        for pair in ((other, other), (one, one), (other, one)):
            self.assertFalse(Alike(one, other) == Alike(*pair))
            self.assertTrue(Alike(one, other) != Alike(*pair))
        parts = {"picture": (4, 2), "number": 0, "weaving": KNOWN, "states": all_states(CALM)}
        self.assertTrue(Parted(**parts) == Parted(**{**parts, "weaving": tuple(KNOWN)}))
        for name, thing in (("picture", (4, 3)), ("number", 1), ("weaving", []), ("states", [])):
            self.assertFalse(Parted(**parts) == Parted(**{**parts, name: thing}))
            self.assertTrue(Parted(**parts) != Parted(**{**parts, name: thing}))

    def test_nothing_else_is_equal(self):
        none = Pictures({}, [])
        things = [none, Alike(none, none), Parted((), 0, [], [])]
        for at, thing in enumerate(things):
            for other in [*ODD, [{}, []], ({}, []), Pictures, Alike, Parted, *things[:at], *things[at + 1:]]:
                self.assertIs(thing == other, False)
                self.assertIs(thing != other, True)
                self.assertIs(other == thing, False)

    def test_parts_are_copied_and_weavings_are_tuples(self):
        weaving, states = list(KNOWN), all_states(CALM)
        weavings = {(1, 2): weaving}
        found = Pictures(weavings=weavings, states=states)
        parted = Parted(picture=(1, 2), number=1, weaving=weaving, states=states)
        weaving.clear()
        states.clear()
        weavings.clear()
        self.assertEqual(vars(found), {"weavings": {(1, 2): tuple(KNOWN)}, "states": all_states(CALM)})
        self.assertEqual(vars(parted), {"picture": (1, 2), "number": 1, "weaving": tuple(KNOWN),
                                        "states": all_states(CALM)})
        self.assertIsInstance(found.weavings[(1, 2)], tuple)
        found.weavings.clear()
        parted.states.clear()
        self.assertEqual((weaving, states, weavings, found.states), ([], [], {}, all_states(CALM)))

    def test_pictures_are_copied_with_theirs(self):
        one, other = pictured(CALM), pictured(LOUD)
        one.weavings[(1, 2)] = list(KNOWN)
        found = Alike(one=one, other=other)
        self.assertEqual(sorted(vars(found)), ["one", "other"])
        self.assertIsNot(found.one, one)
        self.assertIsInstance(found.one.weavings[(1, 2)], tuple)
        for kept in (one, other):
            kept.states.clear()
            kept.weavings.clear()
        self.assertEqual((found.one, found.other), (pictured(CALM), pictured(LOUD)))
        self.assertIs(found.shows(CALM, LOUD), True)
        found.one.states.clear()
        found.other.weavings.clear()
        self.assertEqual((one.states, other.weavings), ([], {}))

    def test_shows_and_equality_look_at_the_current_attributes(self):
        found = Pictures({}, [])
        found.weavings = WAYS
        self.assertIs(found.shows(CALM), False)
        found.states.extend(all_states(CALM))
        self.assertIs(found.shows(CALM), True)
        alike = compare(CALM, LOUD)
        del alike.other.weavings[(1, 2)]
        self.assertIs(alike.shows(CALM, LOUD), False)
        self.assertNotEqual(alike, compare(CALM, LOUD))
        alike.other = pictured(LOUD)
        self.assertIs(alike.shows(CALM, LOUD), True)
        self.assertEqual(alike, compare(CALM, LOUD))
        alike.one = pictured(LOUD)
        self.assertIs(alike.shows(CALM, LOUD), False)
        parted, kept = compare(LINE, CALM), compare(LINE, CALM)
        for name, other in (("picture", (1, 2)), ("number", 1), ("weaving", ()), ("states", [])):
            setattr(parted, name, other)
            self.assertIs(parted.shows(LINE, CALM), False)
            self.assertNotEqual(parted, kept)
            setattr(parted, name, getattr(kept, name))
            self.assertIs(parted.shows(LINE, CALM), True)
            self.assertEqual(parted, kept)
        parted.weaving = list(parted.weaving)
        self.assertIs(parted.shows(LINE, CALM), True)

    def test_what_is_returned_is_new(self):
        found, again = pictured(CALM), pictured(CALM)
        self.assertEqual(found, again)
        found.weavings.clear()
        found.states.clear()
        self.assertIs(again.shows(CALM), True)
        self.assertEqual(pictured(CALM), again)
        pictures(CALM).clear()
        self.assertEqual(pictures(CALM), sorted(WAYS))
        for other in (LOUD, CALM):
            alike, again = compare(CALM, other), compare(CALM, other)
            self.assertIsNot(alike.one, alike.other)
            alike.one.weavings.clear()
            alike.one.states.clear()
            self.assertIs(alike.other.shows(other), True)
            self.assertEqual(compare(CALM, other), again)
        parted, again = compare(LINE, CALM), compare(LINE, CALM)
        parted.states.clear()
        self.assertIs(again.shows(LINE, CALM), True)

    def test_shows_changes_nothing(self):
        for found, arguments in ((pictured(CALM), (CALM,)), (compare(CALM, LOUD), (CALM, LOUD)),
                                 (compare(LINE, CALM), (LINE, CALM))):
            found.shows(*arguments)
            found.shows(*[RING] * len(arguments))
            self.assertIs(found.shows(*arguments), True)
        self.assertEqual(LINE, Net(3, ((0, 1), (1, 2)), weak=(0,)))


class WrongArguments(unittest.TestCase):
    NONE = Pictures({}, [])
    OF_TWO = (compare, are_alike, Alike(NONE, NONE).shows, Parted((), 0, [], []).shows, Parted((), 2, [], []).shows)

    def refuse(self, error, call, *arguments):
        with self.subTest(arguments=arguments), self.assertRaises(error) as caught:
            call(*arguments)
        self.assertIs(type(caught.exception), error)
        self.assertIsNone(getattr(caught.exception, "part", None))

    def test_no_net(self):
        for net in NO_NETS:
            for call in (pictures, pictured, self.NONE.shows):
                self.refuse(BadNet, call, net)
            for call in self.OF_TWO:
                for other in (LINE, PAIR, TOO_LARGE, None):
                    self.refuse(BadNet, call, net, other)
                    self.refuse(BadNet, call, other, net)

    def test_not_as_many_hosts(self):
        for call in self.OF_TWO:
            for one, other in ((LINE, PAIR), (PAIR, LINE), (LINE, TOO_LARGE), (TOO_LARGE, LINE), (LONG, RING)):
                self.refuse(Unlike, call, one, other)
