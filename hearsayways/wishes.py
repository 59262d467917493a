"""What breaks a wish, and how soon, for arguments that are known to be right."""

from hearsayways.checks import closed_links, states_along
from hearsayways.steps import are_true, leads, least_ties, start, way_of
from hearsayways.walks import weaving_to


def comes_round(entries, host):
    """Whether one comes to this host again by the hosts by which each goes."""
    at = way_of(entries, host)
    for _ in entries:
        if at is None or at == host:
            break
        at = way_of(entries, at)
    return at == host


def has_ring(state):
    """Whether one comes to some host again by the hosts by which each goes."""
    entries, _ = state
    return any([comes_round(entries, host) for host in range(1, len(entries) + 1)])


def is_settled(state, ahead):
    """Whether no `tell` of what leads from a state leads to another one."""
    return all([later == state for deed, later in ahead if deed[0] == "tell"])


def is_wrong(net, state, ahead):
    """Whether a state is settled, and a distance in it is not the true one."""
    return is_settled(state, ahead) and not are_true(net, state)


def state_breaks(net, wish, state, ahead):
    """Whether a state, from which this leads, breaks the wish."""
    if wish == "ring":
        return has_ring(state)
    return wish == "wrong" and is_wrong(net, state, ahead)


def deed_breaks(net, wish, state, deed, later):
    """Whether a deed that leads from one state to another one breaks the wish."""
    if deed[0] != "tell":
        return False
    hearer = deed[2]
    before, behind = state[0][hearer - 1][0], later[0][hearer - 1][0]
    if wish == "climb":
        return before < behind < net.endless
    if wish == "misled":
        return before == net.endless and behind < before and least_ties(net, state[1])[hearer] is None
    return False


def is_broken_at(net, wish, state, ahead):
    """Whether a state, from which this leads, or a deed in it breaks the wish."""
    if state_breaks(net, wish, state, ahead):
        return True
    return any([deed_breaks(net, wish, state, deed, later) for deed, later in ahead])


def step_breaks(net, wish, state, deed, later):
    """Whether a deed that leads from one state to another one breaks the wish, or the state behind it does."""
    return deed_breaks(net, wish, state, deed, later) or state_breaks(net, wish, later, leads(net, later))


def weaving_breaks(net, wish, history):
    """Whether these deeds can be done, from the first state on, and the wish is broken at their end."""
    states = [start(net)] + states_along(net, start(net), history)
    # The first state breaks no wish, so that there is no harm without a deed.
    if len(states) <= len(history) or len(history) == 0:
        return False
    return step_breaks(net, wish, states[-2], history[-1], states[-1])


def closed_unbroken(net, wishes, states):
    """Whether these states are closed, as the states of a Safe are, and none of the wishes is broken in one."""
    links = closed_links(net, states)
    if links is None:
        return False
    for state, ahead in links.items():
        if any([is_broken_at(net, wish, state, ahead) for wish in wishes]):
            return False
    return True


def soonest_broken(net, wish, links, origins):
    """A shortest weaving by which the wish is broken, among all states that come about; None if there is none."""
    # The states behind fewer deeds come first, so that the first one that is found is behind the fewest.
    for state, ahead in links.items():
        if state_breaks(net, wish, state, ahead):
            return weaving_to(origins, state)
        for deed, later in ahead:
            if deed_breaks(net, wish, state, deed, later):
                return weaving_to(origins, state) + [deed]
    return None
