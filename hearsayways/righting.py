"""Tellings by which all distances become right, with levels that show that fewer do not do it as evidence."""

from hearsayways.checks import is_state, need_net, need_state, states_along
from hearsayways.kinds import is_integer
from hearsayways.steps import are_true, leads
from hearsayways.walks import MOST_STATES, explored, weaving_to


def tell_leads(net, state):
    """The pairs of each `tell` that can be done in a state, in order, and the state behind it."""
    return [(deed, later) for deed, later in leads(net, state) if deed[0] == "tell"]


def told_from(net, state):
    """The two dicts of `explored` for all states that come about by tells from a state on."""
    return explored(state, lambda one: tell_leads(net, one), MOST_STATES)


def rights(net, state, tells):
    """Whether these are tells that can be done from a state on, behind which the state is right."""
    states = [state] + states_along(net, state, tells)
    if len(states) <= len(tells) or not all([deed[0] == "tell" for deed in tells]):
        return False
    return are_true(net, states[-1])


def keeps_level(net, many, levels, state):
    """Whether a state, if its level is less than this, is not right, and tells lead to the next level at most."""
    level = levels[state]
    if level >= many:
        return True
    if are_true(net, state):
        return False
    return all([later in levels and levels[later] <= level + 1 for _, later in tell_leads(net, state)])


class Righted:
    """Evidence for the fewest tells that right a state: these tells, and levels of states that fewer can lead to."""

    def __init__(self, tells, levels):
        self.tells = list(tells)
        self.levels = {state: levels[state] for state in levels}

    def __eq__(self, other):
        return isinstance(other, Righted) and self.tells == other.tells and self.levels == other.levels

    def shows(self, net, state):
        """Whether the tells right the state, and the levels show that fewer do not."""
        need_net(net)
        need_state(net, state)
        if not rights(net, state, self.tells) or self.levels.get(state) != 0:
            return False
        for one, level in self.levels.items():
            if not is_integer(level) or level < 0 or not is_state(net, one):
                return False
        return all([keeps_level(net, len(self.tells), self.levels, one) for one in self.levels])


class Lost:
    """Evidence that a state cannot be righted: states, none of them right, which no tell leads out of."""

    def __init__(self, states):
        self.states = list(states)

    def __eq__(self, other):
        return isinstance(other, Lost) and self.states == other.states

    def shows(self, net, state):
        """Whether the states show that no tells right the state."""
        need_net(net)
        need_state(net, state)
        if not all([is_state(net, one) and not are_true(net, one) for one in self.states]):
            return False
        held = {one: True for one in self.states}
        return state in held and all([later in held for one in held for _, later in tell_leads(net, one)])


def right(net, state):
    """A Righted or a Lost for the state."""
    need_net(net)
    need_state(net, state)
    links, origins = told_from(net, state)
    nearest = [one for one in links if are_true(net, one)]
    if len(nearest) == 0:
        return Lost(list(links))
    # Those behind fewer tells come first.
    tells = weaving_to(origins, nearest[0])
    levels = {one: len(weaving_to(origins, one)) for one in links}
    return Righted(tells, {one: level for one, level in levels.items() if level <= len(tells)})


def can_right(net, state):
    """Whether the state can be righted."""
    return isinstance(right(net, state), Righted)


def fewest_tells(net, state):
    """The number of the fewest tells that right the state, None if it cannot be righted."""
    found = right(net, state)
    if isinstance(found, Lost):
        return None
    return len(found.tells)


def is_right(net, state):
    """Whether the distances of all hosts are the true ones."""
    need_net(net)
    need_state(net, state)
    return are_true(net, state)
