"""States, the deeds that can be done in them, and the states that come about."""

from hearsayways.checks import is_deed, need_net, need_state, states_along
from hearsayways.errors import BadDeed, BadWeaving
from hearsayways.steps import behind, possible, start, true_distances
from hearsayways.walks import come_about


def first_state(net):
    """The state in which all distances are endless, all holds are 0, and all ties stand."""
    need_net(net)
    return start(net)


def deeds(net, state):
    """The list of all deeds that can be done in a state, in order."""
    need_net(net)
    need_state(net, state)
    return possible(net, state)


def truly(net, state):
    """The list of the true distances of all hosts in a state."""
    need_net(net)
    need_state(net, state)
    return true_distances(net, state[1])


def after(net, state, deed):
    """The state behind a deed."""
    need_net(net)
    need_state(net, state)
    if not is_deed(net, state, deed):
        raise BadDeed("not a deed that can be done")
    return behind(net, state, deed)


def woven(net, history):
    """The list of the states behind each deed of a weaving."""
    need_net(net)
    if not isinstance(history, (list, tuple)):
        raise BadWeaving(None)
    states = states_along(net, start(net), history)
    if len(states) < len(history):
        raise BadWeaving(len(states))
    return states


def all_states(net):
    """The list of all states that come about, each once."""
    need_net(net)
    return come_about(net)
