"""Whether a wish can be broken, with a closed list of states or a shortest weaving as evidence."""

from hearsayways.checks import need_net, need_state
from hearsayways.errors import BadWish
from hearsayways.kinds import is_word
from hearsayways.steps import leads, start
from hearsayways.tables import woven
from hearsayways.walks import walked
from hearsayways.wishes import closed_unbroken, is_settled, soonest_broken, step_breaks, weaving_breaks

WISHES = ("climb", "misled", "ring", "wrong")


def need_wish(wish):
    """Refuses what is not one of the wishes."""
    if not is_word(wish, WISHES):
        raise BadWish("not one of the wishes")


class Safe:
    """Evidence that a wish is not broken: a closed list of states, in none of which it is."""

    def __init__(self, states):
        self.states = list(states)

    def __eq__(self, other):
        return isinstance(other, Safe) and self.states == other.states

    def shows(self, net, wish):
        """Whether the states show that the wish cannot be broken."""
        need_net(net)
        need_wish(wish)
        return closed_unbroken(net, (wish,), self.states)


class Broken:
    """Evidence that a wish can be broken: a weaving by which it is."""

    def __init__(self, weaving):
        self.weaving = list(weaving)

    def __eq__(self, other):
        return isinstance(other, Broken) and self.weaving == other.weaving

    def shows(self, net, wish):
        """Whether the weaving shows that the wish can be broken."""
        need_net(net)
        need_wish(wish)
        return weaving_breaks(net, wish, self.weaving)


def judge(net, wish):
    """A Safe or a Broken for the wish; the weaving of a Broken is a soonest one."""
    need_net(net)
    need_wish(wish)
    links, origins = walked(net)
    weaving = soonest_broken(net, wish, links, origins)
    if weaving is None:
        return Safe(list(links))
    return Broken(weaving)


def is_safe(net, wish):
    """Whether the wish cannot be broken."""
    return isinstance(judge(net, wish), Safe)


def soonest(net, wish):
    """The least number of deeds by which the wish is broken, None if it cannot be broken."""
    found = judge(net, wish)
    if isinstance(found, Safe):
        return None
    return len(found.weaving)


def broken_by(net, history):
    """The list, for each deed of a weaving, of the wishes that it breaks, or the state behind it, in order."""
    behind = woven(net, history)
    before = [start(net)] + behind
    return [[wish for wish in WISHES if step_breaks(net, wish, before[at], history[at], later)]
            for at, later in enumerate(behind)]


def settled(net, state):
    """Whether no `tell` that can be done in a state leads to another one."""
    need_net(net)
    need_state(net, state)
    return is_settled(state, leads(net, state))
