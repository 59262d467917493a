"""Letters that go by the tables while these change: which fates they can have, with a journey to each as evidence."""

from hearsayways.checks import is_deed, is_state, need_host, need_net
from hearsayways.errors import BadHops
from hearsayways.kinds import is_group, is_within, is_word
from hearsayways.steps import behind, leads, start, way_of
from hearsayways.walks import explored, walked, weaving_to

MOST_HOPS = 6
HOP = ("hop",)
EVERY_FATE = ("home", "lost", "spent")


def need_hops(hops):
    """Refuses what is not a number of hops that a letter can have."""
    if not is_within(hops, 1, MOST_HOPS):
        raise BadHops("not a number of hops")


def next_host(post):
    """The host by which the one goes at which the letter lies, None if it goes by none."""
    (entries, _), host, _ = post
    return way_of(entries, host)


def fate_behind(post):
    """The fate to which a hop leads from a post, None if the letter goes on."""
    way = next_host(post)
    if way is None:
        return "lost"
    if way == 0:
        return "home"
    if post[2] == 1:
        return "spent"
    return None


def hopped(post):
    """The post behind a hop by which the letter goes on."""
    state, _, left = post
    return state, next_host(post), left - 1


def post_leads(ahead, post):
    """The pairs of each deed or hop and the post behind it, when this leads from the state of the post."""
    _, host, left = post
    steps = [(deed, (later, host, left)) for deed, later in ahead]
    if fate_behind(post) is None:
        steps.append((HOP, hopped(post)))
    return steps


def walked_posts(net, host, hops):
    """The two dicts of `explored` for all posts that come about."""
    links, _ = walked(net)
    return explored((start(net), host, hops), lambda post: post_leads(links[post[0]], post), None)


def fate_of(net, host, hops, journey):
    """The fate of a letter at the end of a journey, None if these deeds and hops are no journey."""
    post = (start(net), host, hops)
    for at, deed in enumerate(journey):
        if deed == HOP and fate_behind(post) is not None:
            return fate_behind(post) if at == len(journey) - 1 else None
        if deed == HOP:
            post = hopped(post)
        elif is_deed(net, post[0], deed):
            post = (behind(net, post[0], deed), post[1], post[2])
        else:
            return None
    return None


def is_post(net, thing):
    """Whether this is a post of the net, whether it comes about or not."""
    if not is_group(thing, 3):
        return False
    state, host, left = thing
    return is_within(host, 1, net.hosts - 1) and is_within(left, 1, MOST_HOPS) and is_state(net, state)


def are_closed(net, first, posts, journeys):
    """Whether the first post is among these, with each all to which it leads, and hops lead to these fates only."""
    if not all([is_post(net, post) for post in posts]):
        return False
    held = {post: True for post in posts}
    links = {post[0]: leads(net, post[0]) for post in posts}
    for post in held:
        fate = fate_behind(post)
        if fate is not None and fate not in journeys:
            return False
        if not all([later in held for deed, later in post_leads(links[post[0]], post)]):
            return False
    return first in held


class Fates:
    """Evidence for the fates of a letter: a journey to each of them, and closed posts that lead to no other one."""

    def __init__(self, journeys, posts):
        self.journeys = {fate: tuple(journeys[fate]) for fate in journeys}
        self.posts = list(posts)

    def __eq__(self, other):
        return isinstance(other, Fates) and self.journeys == other.journeys and self.posts == other.posts

    def shows(self, net, host, hops):
        """Whether the journeys lead to their fates, and the posts show that there are no others."""
        need_net(net)
        need_host(net, host)
        need_hops(hops)
        for fate, journey in self.journeys.items():
            if not is_word(fate, EVERY_FATE) or fate_of(net, host, hops, journey) != fate:
                return False
        return are_closed(net, (start(net), host, hops), self.posts, self.journeys)


def fated(net, host, hops):
    """A Fates for a letter that lies at a host with so many hops at first."""
    need_net(net)
    need_host(net, host)
    need_hops(hops)
    links, origins = walked_posts(net, host, hops)
    lasts = {}
    for post in links:
        fate = fate_behind(post)
        if fate is not None and fate not in lasts:
            lasts[fate] = post
    journeys = {fate: weaving_to(origins, lasts[fate]) + [HOP] for fate in sorted(list(lasts))}
    return Fates(journeys, list(links))


def fates(net, host, hops):
    """The ascending list of all fates that a letter can have."""
    return list(fated(net, host, hops).journeys)


def most_hops(net, host, hops):
    """The greatest number of hops in a journey of a letter that comes home, None if none does."""
    need_net(net)
    need_host(net, host)
    need_hops(hops)
    links, _ = walked_posts(net, host, hops)
    return max([hops - post[2] + 1 for post in links if fate_behind(post) == "home"], default=None)
