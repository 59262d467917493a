"""What is the case, for all that a host knows by what it heard: all states behind weavings that fit its log."""

from hearsayways.checks import is_state, need_host, need_net, states_along
from hearsayways.errors import BadLog
from hearsayways.kinds import is_group, is_within
from hearsayways.steps import heard, leads, start
from hearsayways.walks import walked

MOST_PAIRS = 6


def is_pair(net, thing):
    """Whether this is a pair of a host of the net and a distance."""
    return is_group(thing, 2) and is_within(thing[0], 0, net.hosts - 1) and is_within(thing[1], 0, net.endless)


def need_log(net, log):
    """Refuses what is not a log."""
    if not isinstance(log, (list, tuple)) or len(log) > MOST_PAIRS:
        raise BadLog(None)
    for at, pair in enumerate(log):
        if not is_pair(net, pair):
            raise BadLog(at)


def hears(host, deed):
    """Whether this is a `tell` that the host hears."""
    return deed[0] == "tell" and deed[2] == host


def pair_of(net, state, deed):
    """What the hearer writes down by a `tell` in a state."""
    _, teller, hearer = deed
    return teller, heard(net, state[0], teller, hearer)


def fits(net, host, log, weaving, end):
    """Whether these deeds are a weaving that fits the log, to this state."""
    states = [start(net)] + states_along(net, start(net), weaving)
    if len(states) <= len(weaving) or states[-1] != end:
        return False
    if len(weaving) > 0 and not hears(host, weaving[-1]):
        return False
    return [pair_of(net, states[at], deed) for at, deed in enumerate(weaving) if hears(host, deed)] == list(log)


def is_layer(net, host, pair, layer, later_states):
    """Whether deeds that the host does not hear stay in this layer, and what tells it the pair leads on to these."""
    for state in layer:
        for deed, later in leads(net, state):
            if not hears(host, deed):
                if later not in layer:
                    return False
            elif pair_of(net, state, deed) == pair and later not in later_states:
                return False
    return True


class Ends:
    """Evidence for all states behind weavings that fit a log: a weaving to each, and layers that lead to no other."""

    def __init__(self, ends, layers):
        self.ends = {state: tuple(ends[state]) for state in ends}
        self.layers = [list(layer) for layer in layers]

    def __eq__(self, other):
        return isinstance(other, Ends) and self.ends == other.ends and self.layers == other.layers

    def shows(self, net, host, log):
        """Whether the weavings fit the log, and the layers show that there are no other ends."""
        need_net(net)
        need_host(net, host)
        need_log(net, log)
        rows = self.layers + [list(self.ends)]
        if len(rows) != len(log) + 1 or not all([is_state(net, state) for row in rows for state in row]):
            return False
        if not all([fits(net, host, log, self.ends[state], state) for state in self.ends]):
            return False
        held = [{state: True for state in row} for row in rows]
        # The first list is that of the ends, if the log is empty.
        if start(net) not in held[0]:
            return False
        return all([is_layer(net, host, pair, held[at], held[at + 1]) for at, pair in enumerate(log)])


def unheard(links, host, weavings):
    """These states and all to which deeds lead that the host does not hear, with a weaving to each."""
    found = {state: weavings[state] for state in weavings}
    waiting = list(found)
    at = 0
    while at < len(waiting):
        state = waiting[at]
        for deed, later in links[state]:
            if not hears(host, deed) and later not in found:
                found[later] = found[state] + (deed,)
                waiting.append(later)
        at += 1
    return found


def behind_pair(net, links, host, pair, weavings):
    """The states to which a `tell` leads from these by which the host hears the pair, with a weaving to each."""
    found = {}
    for state, weaving in weavings.items():
        for deed, later in links[state]:
            if hears(host, deed) and later not in found and pair_of(net, state, deed) == pair:
                found[later] = weaving + (deed,)
    return found


def ends_of(net, links, host, log):
    """An Ends for arguments that are known to be right, when this leads from each state that comes about."""
    layers = []
    weavings = {start(net): ()}
    for pair in log:
        layer = unheard(links, host, weavings)
        layers.append(list(layer))
        weavings = behind_pair(net, links, host, pair, layer)
    return Ends(weavings, layers)


def checked_links(net, host, log):
    """What leads from each state that comes about; refuses wrong arguments."""
    need_net(net)
    need_host(net, host)
    need_log(net, log)
    links, _ = walked(net)
    return links


def ends(net, host, log):
    """An Ends for all states behind weavings that fit the log of a host."""
    links = checked_links(net, host, log)
    return ends_of(net, links, host, log)


def standing(net, host, log):
    """The list, for each tie, of a word that tells whether it surely stands; None if no weaving fits the log."""
    found = ends(net, host, log).ends
    if len(found) == 0:
        return None
    sure = [all([stands[tie] for _, stands in found]) for tie in range(len(net.ties))]
    return ["surely" if up else "perhaps" for up in sure]


def next_heard(net, host, log):
    """The ascending list of the pairs that the host can hear first behind a weaving that fits the log."""
    links = checked_links(net, host, log)
    found = ends_of(net, links, host, log).ends
    pairs = {}
    for state in unheard(links, host, found):
        for deed, _ in links[state]:
            if hears(host, deed):
                pairs[pair_of(net, state, deed)] = True
    return sorted(list(pairs))
