"""[9] and letters.py of the interface."""

import unittest

from hearsayways.errors import BadHops, BadHost, BadNet, TooLarge
from hearsayways.letters import Fates, fated, fates, most_hops
from hearsayways.nets import Net
from hearsayways.tables import all_states, first_state

from tests import model
from tests.samples import (
    LARGE, LINE, LONG, NO_DEEDS, NO_HOSTS, NO_NETS, ODD, PAIR, RING, RING_WEAVING, TOO_LARGE, varied_nets)

HOP = ("hop",)
CALM = LINE.with_weak(())
LOUD = LINE.but("cry", "loud")
KNOWN = [("tell", 0, 1), ("tell", 1, 2)]
HOME = [*KNOWN, HOP, HOP]
NO_HOPS = [0, -1, 7, 10 ** 30, None, True, False, "1", b"1", "", [], [1], (1,), {}, {1}, 1 + 0j, object(), len]


def walked(account, host, hops):
    """All fates and the most hops of a way home, by how many hops the letter has taken."""
    here, found, most = {(model.Model(account.net).state(), host)}, set(), None
    for taken in range(1, hops + 1):
        fresh, ahead = list(here), set()
        while fresh:
            state, at = fresh.pop()
            later = {(after, at) for after in account.steps[state].values()} - here
            fresh += later
            here |= later
        for state, at in here:
            way = state[0][at - 1][1]
            if way is None:
                found.add("lost")
            elif way == 0:
                found.add("home")
                most = taken
            elif taken == hops:
                found.add("spent")
            else:
                ahead.add((state, way))
        here = ahead
    return sorted(found), most


def hop(state, host, left):
    """What a hop leads to: a fate or a post."""
    way = state[0][host - 1][1]
    if way is None or way == 0:
        return "lost" if way is None else "home"
    return "spent" if left == 1 else (state, way, left - 1)


def is_journey(net, host, hops, fate, journey):
    """Whether these deeds and hops are a journey to this fate, told in the words of the document."""
    post = (model.Model(net).state(), host, hops)
    for deed in journey:
        if isinstance(post, str):
            return False
        state, at, left = post
        if deed == HOP:
            post = hop(state, at, left)
        elif deed in model.Model(net, state).deeds():
            post = (model.behind(net, state, deed), at, left)
        else:
            return False
    return post == fate


def are_posts(net, host, hops, found, posts):
    """Whether these posts are as in a Fates with these fates, told in the words of the document."""
    held = set(posts)
    if (model.Model(net).state(), host, hops) not in held:
        return False
    for state, at, left in held:
        ahead = hop(state, at, left)
        if ahead not in found if isinstance(ahead, str) else ahead not in held:
            return False
        if any((model.behind(net, state, deed), at, left) not in held for deed in model.Model(net, state).deeds()):
            return False
    return True


class Examples(unittest.TestCase):
    def test_example(self):
        net = Net(3, ((0, 1), (1, 2)), weak=(0,))
        self.assertEqual(
            [fates(net, 2, 2), fates(net.but("cry", "loud"), 2, 2), fates(net, 2, 1), most_hops(net, 2, 5),
             most_hops(net.but("cry", "loud"), 2, 5), fated(net, 2, 2).shows(net, 2, 2)],
            [["home", "lost", "spent"], ["home", "lost"], ["lost", "spent"], 4, 2, True])

    def test_two_hosts(self):
        for hops in (1, 6):
            self.assertEqual(fates(PAIR, 1, hops), ["home", "lost"])
            self.assertEqual(most_hops(PAIR, 1, hops), 1)
        near = Net(2, ((0, 1),))
        first, known = first_state(near), (((1, 0, 0),), (True,))
        self.assertEqual(fated(near, 1, 1), Fates(
            {"home": [("tell", 0, 1), HOP], "lost": [HOP]}, [(first, 1, 1), (known, 1, 1)]))

    def test_hosts_apart(self):
        net = Net(4, ((2, 3),))
        for host in (1, 2, 3):
            self.assertEqual(fates(net, host, 6), ["lost"])
            self.assertIsNone(most_hops(net, host, 6))
            self.assertEqual(fated(net, host, 6), Fates({"lost": (HOP,)}, [(first_state(net), host, 6)]))

    def test_bounds_of_hops(self):
        # While tables change, a letter can go to and fro, and it takes an even number of hops home from host 2.
        self.assertEqual([most_hops(LINE, 2, hops) for hops in range(1, 7)], [None, 2, 2, 4, 4, 6])
        self.assertEqual([most_hops(LINE, 1, hops) for hops in range(1, 7)], [1, 1, 3, 3, 5, 5])
        self.assertEqual([fates(LINE, 1, hops) for hops in (1, 6)], [["home", "lost", "spent"]] * 2)
        self.assertEqual([fates(CALM, 2, hops) for hops in (1, 2, 6)],
                         [["lost", "spent"], ["home", "lost"], ["home", "lost"]])
        self.assertEqual([most_hops(CALM, 2, hops) for hops in (1, 2, 6)], [None, 2, 2])

    def test_endless_is_no_way(self):
        near = LINE.but("endless", 2)
        self.assertEqual(fates(near, 2, 6), ["lost"])
        self.assertIsNone(most_hops(near, 2, 6))


class AgainstAWalk(unittest.TestCase):
    def check(self, net, account, host, hops):
        found, most = walked(account, host, hops)
        told = fated(net, host, hops)
        self.assertEqual(fates(net, host, hops), found)
        self.assertEqual(list(told.journeys), found)
        self.assertEqual(most_hops(net, host, hops), most)
        for fate, journey in told.journeys.items():
            self.assertIsInstance(journey, tuple)
            self.assertTrue(is_journey(net, host, hops, fate, journey))
        self.assertIs(told.shows(net, host, hops), True)

    def test_varied_nets(self):
        for at, net in enumerate(varied_nets()):
            account = model.Account(net)
            host, hops = 1 + at % (net.hosts - 1), 1 + at % 6
            with self.subTest(net=vars(net), host=host, hops=hops):
                if len(account.steps) > 800:
                    for call in (fates, fated, most_hops):
                        with self.assertRaises(TooLarge):
                            call(net, host, hops)
                    continue
                self.check(net, account, host, hops)

    def test_all_hosts_and_hops(self):
        for net in (LINE, RING.but("split", "poison"), LOUD.but("hold", 2), RING.but("split", "quiet").but("hold", 1),
                    Net(4, ((0, 1), (1, 2), (1, 3), (2, 3)), weak=(0,), endless=5, split="poison")):
            account = model.Account(net)
            for host in range(1, net.hosts):
                for hops in range(1, 7):
                    with self.subTest(net=vars(net), host=host, hops=hops):
                        self.check(net, account, host, hops)

    def test_posts_are_closed(self):
        for net, host, hops in ((LINE, 2, 2), (LOUD, 1, 3), (RING, 2, 6), (PAIR, 1, 1)):
            told = fated(net, host, hops)
            self.assertTrue(are_posts(net, host, hops, told.journeys, told.posts))

    def test_up_to_800_states(self):
        told = fated(LARGE, 3, 2)
        self.assertIs(told.shows(LARGE, 3, 2), True)
        self.assertEqual(len({state for state, _, _ in told.posts}), 791)

    def test_more_than_800_states(self):
        for call in (fates, fated, most_hops):
            for hops in (1, 6):
                with self.assertRaises(TooLarge):
                    call(TOO_LARGE, 3, hops)


class Shows(unittest.TestCase):
    def setUp(self):
        self.found = fated(LINE, 2, 2)

    def shows(self, journeys=None, posts=None, net=LINE, host=2, hops=2):
        made = Fates(self.found.journeys if journeys is None else journeys,
                     self.found.posts if posts is None else posts)
        return made.shows(net, host, hops)

    def with_journey(self, fate, journey):
        return self.shows(journeys={**self.found.journeys, fate: journey})

    def test_as_it_is_told_and_in_another_order(self):
        self.assertIs(self.shows(), True)
        self.assertIs(self.shows(journeys=dict(reversed(list(self.found.journeys.items())))), True)
        self.assertIs(self.shows(posts=self.found.posts[::-1] + self.found.posts), True)
        self.assertIs(self.with_journey("home", HOME), True)
        self.assertIs(self.with_journey("home", [("fall", 0), ("come", 0), *HOME]), True)
        self.assertIs(self.with_journey("home", [*KNOWN, HOP, ("tell", 1, 2), HOP]), True)
        # The letter goes to host 1 and back to host 2, for which two hops are too few to come home.
        self.assertIs(self.with_journey("spent", [*RING_WEAVING, HOP, HOP]), True)
        self.assertIs(self.with_journey("lost", [*KNOWN, HOP, ("fall", 0), HOP]), True)

    def test_a_journey_that_ends_too_soon(self):
        for fate, journey in self.found.journeys.items():
            for many in range(len(journey)):
                self.assertIs(self.with_journey(fate, journey[:many]), False)
        self.assertIs(self.with_journey("home", [*KNOWN, HOP]), False)
        self.assertIs(self.with_journey("home", [*KNOWN, HOP, ("tell", 0, 1)]), False)

    def test_a_journey_that_goes_on_behind_its_fate(self):
        for fate, journey in self.found.journeys.items():
            for deed in (HOP, ("fall", 0), ("tell", 0, 1)):
                self.assertIs(self.with_journey(fate, [*journey, deed]), False)
        self.assertIs(self.with_journey("home", [HOP, *HOME]), False)
        self.assertIs(self.with_journey("lost", [HOP, ("tell", 0, 1), HOP]), False)

    def test_a_journey_to_another_fate(self):
        for fate in self.found.journeys:
            for other, journey in self.found.journeys.items():
                self.assertIs(self.with_journey(fate, journey), fate == other)

    def test_a_journey_that_cannot_be_done(self):
        for deed in [deed for deed in NO_DEEDS if deed != HOP] + [("hop", 0), ("hop", 1, 2), ("hops",), ()]:
            with self.subTest(deed=deed):
                self.assertIs(self.with_journey("home", [deed, *HOME]), False)
                self.assertIs(self.with_journey("lost", [deed, HOP]), False)
        for at, deed in enumerate([("tell", False, 1), ("tell", True, 2)]):
            self.assertIs(self.with_journey("home", HOME[:at] + [deed] + HOME[at + 1:]), False)
        self.assertIs(self.with_journey("home", [*KNOWN, HOP, ("come", 0), HOP]), False)
        quiet = LINE.but("split", "quiet")
        told = fated(quiet, 2, 2)
        self.assertIs(told.shows(quiet, 2, 2), True)
        told.journeys["home"] = (*KNOWN, ("tell", 2, 1), HOP, HOP)
        self.assertIs(told.shows(quiet, 2, 2), False)
        self.assertIs(self.with_journey("home", told.journeys["home"]), True)

    def test_a_fate_that_is_left_out(self):
        for fate in self.found.journeys:
            part = {other: self.found.journeys[other] for other in self.found.journeys if other != fate}
            self.assertIs(self.shows(journeys=part), False)
        self.assertIs(self.shows(journeys={}), False)

    def test_a_fate_that_is_put_in_or_is_none(self):
        told = fated(LOUD, 2, 2)
        self.assertEqual(list(told.journeys), ["home", "lost"])
        for journey in ([HOP], HOME, [*RING_WEAVING, HOP, HOP], [], [*KNOWN, HOP, HOP, HOP]):
            self.assertIs(Fates({**told.journeys, "spent": journey}, told.posts).shows(LOUD, 2, 2), False)
            for fate in ("", "hop", "Home", "away", "homes", None, 0):
                self.assertIs(Fates({**told.journeys, fate: journey}, told.posts).shows(LOUD, 2, 2), False)

    def test_a_post_too_few(self):
        for post in self.found.posts:
            part = [other for other in self.found.posts if other != post]
            self.assertIs(self.shows(posts=part), False)
        self.assertIs(self.shows(posts=[]), False)
        self.assertIs(self.shows(posts=[(state, 2, 2) for state in all_states(LINE)]), False)

    def test_posts_that_do_not_come_about(self):
        # With them come the posts to which they lead.
        states = all_states(LINE)
        every = [(state, host, left) for state in states for host in (1, 2) for left in (1, 2)]
        self.assertIs(self.shows(posts=every), True)
        for extra in ((states[0], 1, 6), (states[0], 2, 1), (states[0], 2, 3)):
            posts = [*self.found.posts, extra]
            self.assertIs(self.shows(posts=posts), are_posts(LINE, 2, 2, self.found.journeys, posts))
        odd = (((3, 0, 0), (2, 1, 0)), (True, True))
        self.assertNotIn(odd, states)
        more = [(state, host, left) for state in model.closure(LINE, [odd]) for host in (1, 2) for left in (1, 2)]
        self.assertIs(self.shows(posts=self.found.posts + more), True)
        self.assertIs(self.shows(posts=[*self.found.posts, (odd, 2, 2)]), False)

    def test_posts_of_another_host_or_with_other_hops(self):
        for post in self.found.posts:
            state, host, left = post
            for other in ((state, 3 - host, left), (state, host, left + 1), (state, host, 3 - left)):
                posts = [other if told == post else told for told in self.found.posts]
                self.assertIs(self.shows(posts=posts), False)
        posts = [(state, 3 - host, left) for state, host, left in self.found.posts]
        self.assertIs(self.shows(posts=posts), False)
        for host, hops in ((1, 2), (2, 1), (2, 3), (1, 1)):
            self.assertIs(self.shows(host=host, hops=hops), False)
            self.assertIs(self.shows(posts=fated(LINE, host, hops).posts), False)

    def test_a_hop_to_another_fate(self):
        told = fated(LINE, 2, 1)
        self.assertEqual(list(told.journeys), ["lost", "spent"])
        known = (((1, 0, 0), (2, 1, 0)), (True, True))
        posts = [*told.posts, *[(state, 1, 1) for state, _, _ in told.posts]]
        self.assertIn((known, 1, 1), posts)
        self.assertIs(Fates(told.journeys, posts).shows(LINE, 2, 1), False)
        self.assertIs(Fates({**told.journeys, "home": [("tell", 0, 1), HOP]}, posts).shows(LINE, 2, 1), False)

    def test_what_is_no_post(self):
        first = first_state(LINE)
        for post in [(first, 2, True), (first, True, 2), (first, 0, 2), (first, 3, 2), (first, 2, 0), (first, 2, 7),
                     ((first[0], (1, 1)), 2, 2), (first, 2), (first, 2, 2, 2), [first, 2, 2], None, first]:
            with self.subTest(post=post):
                self.assertIs(self.shows(posts=[*self.found.posts, post]), False)

    def test_another_net(self):
        for net in (LOUD, CALM, RING, LINE.but("endless", 5), LINE.but("hold", 1), LINE.but("split", "poison")):
            self.assertIs(self.shows(net=net), False)

    def test_parts_of_other_nets_against_the_words_of_the_document(self):
        nets = [LINE, LOUD, CALM, LINE.but("split", "quiet"), LINE.but("split", "poison"), LINE.but("endless", 3)]
        told = [fated(net, host, hops) for net in nets for host in (1, 2) for hops in (1, 2, 3)]
        for net in nets:
            for at, one in enumerate(told):
                for other in (told[at - 5], told[at - 1], one):
                    expected = (are_posts(net, 2, 2, one.journeys, other.posts)
                                and all(is_journey(net, 2, 2, fate, one.journeys[fate]) for fate in one.journeys)
                                and all(model.is_state(net, state) for state, _, _ in other.posts))
                    self.assertIs(Fates(one.journeys, other.posts).shows(net, 2, 2), expected)

    def test_more_than_800_states_are_no_matter(self):
        states = model.come_about(TOO_LARGE)
        posts = [(state, 3, 1) for state in states]
        journeys = {"home": [("tell", 0, 3), HOP], "lost": [HOP],
                    "spent": [("tell", 0, 1), ("tell", 1, 3), HOP]}
        self.assertIs(Fates(journeys, posts).shows(TOO_LARGE, 3, 1), True)
        self.assertIs(Fates(journeys, posts[1:]).shows(TOO_LARGE, 3, 1), False)


class Objects(unittest.TestCase):
    def test_equality(self):
        found = fated(LINE, 2, 2)
        again = Fates({fate: list(found.journeys[fate]) for fate in ("spent", "lost", "home")}, found.posts)
        self.assertTrue(found == again)
        self.assertFalse(found != again)
        for other in (Fates({}, found.posts), Fates(found.journeys, []), Fates(found.journeys, found.posts[::-1]),
                      Fates({**found.journeys, "lost": []}, found.posts)):
            self.assertFalse(found == other)
            self.assertTrue(found != other)

    def test_nothing_else_is_equal(self):
        found = Fates({}, [])
        for other in [*ODD, [{}, []], ({}, []), Fates]:
            self.assertIs(found == other, False)
            self.assertIs(found != other, True)
            self.assertIs(other == found, False)

    def test_parts_are_copied_and_journeys_are_tuples(self):
        journey, posts = list(HOME), [(first_state(LINE), 2, 2)]
        journeys = {"lost": (HOP,), "home": journey}
        found = Fates(journeys=journeys, posts=posts)
        journey.clear()
        posts.clear()
        journeys.clear()
        self.assertEqual(vars(found), {"journeys": {"lost": (HOP,), "home": tuple(HOME)},
                                       "posts": [(first_state(LINE), 2, 2)]})
        self.assertIsInstance(found.journeys["home"], tuple)
        found.posts.clear()
        found.journeys.clear()
        self.assertEqual((journey, posts, journeys), ([], [], {}))

    def test_shows_and_equality_look_at_the_current_attributes(self):
        found, kept = Fates({}, []), fated(LINE, 2, 2)
        found.journeys = dict(kept.journeys)
        self.assertIs(found.shows(LINE, 2, 2), False)
        found.posts.extend(kept.posts)
        self.assertIs(found.shows(LINE, 2, 2), True)
        self.assertEqual(found, kept)
        found.journeys["home"] = list(HOME)
        self.assertIs(found.shows(LINE, 2, 2), True)
        del found.journeys["home"]
        self.assertIs(found.shows(LINE, 2, 2), False)
        self.assertNotEqual(found, kept)

    def test_what_is_returned_is_new(self):
        found, again = fated(LINE, 2, 2), fated(LINE, 2, 2)
        self.assertIsNot(found, again)
        self.assertEqual(found, again)
        found.journeys.clear()
        found.posts.clear()
        self.assertIs(again.shows(LINE, 2, 2), True)
        self.assertEqual(fated(LINE, 2, 2), again)
        fates(LINE, 2, 2).clear()
        self.assertEqual(fates(LINE, 2, 2), ["home", "lost", "spent"])

    def test_shows_changes_nothing(self):
        found, kept = fated(LINE, 2, 2), fated(LINE, 2, 2)
        for net in (LINE, RING, LONG):
            found.shows(net, 2, 2)
        self.assertEqual(found, kept)
        self.assertEqual(list(found.journeys), list(kept.journeys))
        self.assertEqual(LINE, Net(3, ((0, 1), (1, 2)), weak=(0,)))


class WrongArguments(unittest.TestCase):
    CALLS = (fates, fated, most_hops, Fates({}, []).shows, Fates({"lost": [HOP]}, []).shows)

    def refuse(self, error, *arguments):
        for call in self.CALLS:
            with self.subTest(arguments=arguments), self.assertRaises(error) as caught:
                call(*arguments)
            self.assertIs(type(caught.exception), error)
            self.assertEqual(getattr(caught.exception, "part", None), None)

    def test_no_net(self):
        for net in NO_NETS:
            for host, hops in ((1, 1), (0, 1), (1, 0), (None, None)):
                self.refuse(BadNet, net, host, hops)

    def test_no_host(self):
        for host in NO_HOSTS:
            for net in (LINE, RING):
                for hops in (1, 0, None):
                    self.refuse(BadHost, net, host, hops)
        self.refuse(BadHost, TOO_LARGE, 4, 1)
        self.refuse(BadHost, PAIR, 2, 1)

    def test_no_hops(self):
        for hops in NO_HOPS:
            for net in (LINE, TOO_LARGE):
                self.refuse(BadHops, net, 2, hops)
