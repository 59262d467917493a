"""All states that come about, and the deeds by which one comes to them, for nets that are known to be right."""

from hearsayways.errors import TooLarge
from hearsayways.steps import leads, start

MOST_STATES = 800


def explored(first, ahead_of, most):
    """Two dicts from all states (or posts) to which deeds lead from the first one on, those behind fewer deeds first.

    The first dict goes to what `ahead_of` gives for the state: the pairs of each deed and the state behind it. The
    second one goes to the state and the deed from which one came to it first, None for the first state. More states
    than `most` are too many, unless this is None.
    """
    found = [first]
    origins = {first: None}
    links = {}
    while len(links) < len(found):
        state = found[len(links)]
        ahead = ahead_of(state)
        for deed, later in ahead:
            if later not in origins:
                origins[later] = (state, deed)
                found.append(later)
        if most is not None and len(found) > most:
            raise TooLarge("too many states come about")
        links[state] = ahead
    return links, origins


def walked(net):
    """The two dicts of `explored` for all states that come about."""
    return explored(start(net), lambda state: leads(net, state), MOST_STATES)


def come_about(net):
    """All states that come about, each once."""
    links, _ = walked(net)
    return list(links)


def weaving_to(origins, state):
    """The deeds by which one came to a state first."""
    back = []
    while origins[state] is not None:
        state, deed = origins[state]
        back.append(deed)
    return back[::-1]
