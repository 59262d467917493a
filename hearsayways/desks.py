"""Live nets: a net whose state changes by the deeds that are done, which can be taken back, or only tried."""

from hearsayways.checks import is_deed, need_host, need_net, states_along
from hearsayways.errors import BadDeed, BadWeaving, NothingDone
from hearsayways.steps import behind, distances, possible, start, way_of


class Mark:
    """What a live net was like when a trial was entered, and the mark of the trial around it, if there is one."""

    def __init__(self, done, states, before):
        self.done = done
        self.states = states
        self.before = before


class Trial:
    """A with-block on a live net, at whose end everything is as at its beginning."""

    def __init__(self, live):
        self.live = live

    def __enter__(self):
        live = self.live
        live.mark = Mark(live.done, live.states, live.mark)
        # The lists that the mark has stay as they are, so that it is enough to give them back.
        live.done = list(live.done)
        live.states = list(live.states)
        return live

    def __exit__(self, kind, value, trace):
        self.live.done = self.live.mark.done
        self.live.states = self.live.mark.states
        self.live.mark = self.live.mark.before


class LiveNet:
    """A net with a state, and the deeds by which it came to it."""

    def __init__(self, net):
        need_net(net)
        self.net = net
        self.done = []
        self.states = [start(net)]
        self.mark = None

    def __len__(self):
        return len(self.done)

    @property
    def now(self):
        """The state."""
        return self.states[-1]

    @property
    def journal(self):
        """The list of all deeds that were done, in order."""
        return list(self.done)

    def able_now(self):
        """The list of all deeds that can be done now, in order."""
        return possible(self.net, self.now)

    def way(self, host):
        """The hosts by which one goes from a host on, up to the first one that is there already."""
        need_host(self.net, host)
        entries, _ = self.now
        hosts = [host]
        ahead = way_of(entries, host)
        while ahead is not None and ahead not in hosts:
            hosts.append(ahead)
            ahead = way_of(entries, ahead)
        return hosts if ahead is None else hosts + [ahead]

    def __call__(self, deed):
        if not is_deed(self.net, self.now, deed):
            raise BadDeed("not a deed that can be done")
        self.states.append(behind(self.net, self.now, deed))
        self.done.append(deed)
        return distances(self.now)

    def undo(self):
        """Takes the last deed back, and returns it."""
        kept = 0 if self.mark is None else len(self.mark.done)
        if len(self.done) == kept:
            raise NothingDone("there is no deed to take back")
        self.states.pop()
        return self.done.pop()

    def branch(self):
        """An independent live net on which everything is the same, and in no trial."""
        other = LiveNet(self.net)
        other.done = list(self.done)
        other.states = list(self.states)
        return other

    def trial(self):
        """What a with-block is opened with, at whose end everything is as at its beginning."""
        return Trial(self)

    def attempt(self, work):
        """What a function returns that is called with the live net in a trial."""
        with self.trial() as live:
            return work(live)

    def tried(self, history):
        """The list of the distances of all hosts behind each of these deeds, which are done in a trial only."""
        if not isinstance(history, (list, tuple)):
            raise BadWeaving(None)
        states = states_along(self.net, self.now, history)
        if len(states) < len(history):
            raise BadWeaving(len(states))
        return [distances(state) for state in states]
