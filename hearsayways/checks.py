"""What arguments and evidence have to be: nets, states, deeds, and what consists of them."""

from hearsayways.errors import BadHost, BadNet, BadState
from hearsayways.kinds import is_group, is_integer, is_within
from hearsayways.nets import Net
from hearsayways.steps import behind, leads, possible, standing_pairs, start


def need_net(net):
    """Refuses what is not a Net."""
    if not isinstance(net, Net):
        raise BadNet(None)


def need_host(net, host):
    """Refuses what is not the number of a host other than 0."""
    if not is_within(host, 1, net.hosts - 1):
        raise BadHost("not the number of a host other than 0")


def are_standing(net, stands):
    """Whether this tells of each tie whether it stands, and those that are not weak do."""
    if not is_group(stands, len(net.ties)):
        return False
    if not all([isinstance(up, bool) for up in stands]):
        return False
    return all([stands[tie] or tie in net.weak for tie in range(len(net.ties))])


def is_entry(net, stands, host, entry):
    """Whether the host can have this entry, when these ties stand."""
    if not is_group(entry, 3):
        return False
    distance, way, hold = entry
    if not is_within(distance, 1, net.endless) or not is_within(hold, 0, net.hold):
        return False
    if distance == net.endless:
        return way is None
    return hold == 0 and is_integer(way) and (way, host) in standing_pairs(net, stands)


def is_state(net, state):
    """Whether this is a state of the net, whether it comes about or not."""
    if not is_group(state, 2):
        return False
    entries, stands = state
    if not is_group(entries, net.hosts - 1) or not are_standing(net, stands):
        return False
    return all([is_entry(net, stands, at + 1, entry) for at, entry in enumerate(entries)])


def need_state(net, state):
    """Refuses what is not a state of the net."""
    if not is_state(net, state):
        raise BadState("not a state of the net")


def is_deed(net, state, deed):
    """Whether this is a deed that can be done in a state."""
    if not isinstance(deed, tuple) or not 2 <= len(deed) <= 3 or not isinstance(deed[0], str):
        return False
    # Booleans are equal to integers, so that the list of deeds alone would let them pass.
    return all([is_integer(number) for number in deed[1:]]) and deed in possible(net, state)


def states_along(net, state, history):
    """The states behind each deed of these, from a state on, up to the first deed that cannot be done then."""
    states = []
    for deed in history:
        if not is_deed(net, state, deed):
            break
        state = behind(net, state, deed)
        states.append(state)
    return states


def closed_links(net, states):
    """A dict from each of these states to what leads from it.

    None if one is no state of the net, the first one is not among them, or a deed leads to another one.
    """
    if not all([is_state(net, state) for state in states]):
        return None
    links = {state: leads(net, state) for state in states}
    if start(net) not in links:
        return None
    for ahead in links.values():
        if not all([later in links for deed, later in ahead]):
            return None
    return links
