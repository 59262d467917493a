"""All states that come about, and the deeds by which one comes to them, for nets that are known to be right."""

from hearsayways.errors import TooLarge
from hearsayways.steps import leads, start

MOST_STATES = 800


def walked(net):
    """Two dicts from all states that come about, those behind fewer deeds first.

    The first one goes to what leads from the state, the second one to the state and the deed from which one came to
    it first, None for the first state.
    """
    found = [start(net)]
    origins = {found[0]: None}
    links = {}
    while len(links) < len(found):
        state = found[len(links)]
        ahead = leads(net, state)
        for deed, later in ahead:
            if later not in origins:
                origins[later] = (state, deed)
                found.append(later)
        if len(found) > MOST_STATES:
            raise TooLarge("more than 800 states come about")
        links[state] = ahead
    return links, origins


def come_about(net):
    """All states that come about, each once."""
    links, _ = walked(net)
    return list(links)


def weaving_to(origins, state):
    """A weaving to a state with as few deeds as possible."""
    back = []
    while origins[state] is not None:
        state, deed = origins[state]
        back.append(deed)
    return back[::-1]
