"""The document's words on states and deeds told a second time, in another way, to compare the program with."""

from itertools import combinations, product

RULES = [
    {"endless": endless, "split": split, "cry": cry, "hold": hold}
    for endless in (2, 3, 4, 5) for split in ("plain", "poison", "quiet")
    for cry in ("loud", "still") for hold in (0, 1, 2)
]


def shapes(hosts):
    """All triples of hosts, ties and weak ties that a net with so many hosts can have."""
    pairs = list(combinations(range(hosts), 2))
    for many in range(1, min(5, len(pairs)) + 1):
        for ties in combinations(pairs, many):
            for fallible in range(0, min(3, many) + 1):
                for weak in combinations(range(many), fallible):
                    yield hosts, ties, weak


class Model:
    """A state that changes, with a dict for each of its parts."""

    def __init__(self, net, state=None):
        self.net = net
        others = range(1, net.hosts)
        self.distance = {host: net.endless for host in others}
        self.way = {host: None for host in others}
        self.hold = {host: 0 for host in others}
        self.up = {tie: True for tie in range(len(net.ties))}
        if state is not None:
            for host in others:
                self.distance[host], self.way[host], self.hold[host] = state[0][host - 1]
            self.up = dict(enumerate(state[1]))

    def state(self):
        entries = [(self.distance[host], self.way[host], self.hold[host]) for host in range(1, self.net.hosts)]
        return tuple(entries), tuple(self.up[tie] for tie in range(len(self.net.ties)))

    def joined(self, one, other):
        return any(self.up[at] and set(tie) == {one, other} for at, tie in enumerate(self.net.ties))

    def can(self, deed):
        if deed[0] == "tell":
            _, i, j = deed
            silent = self.net.split == "quiet" and i != 0 and self.way[i] == j
            return j != 0 and self.joined(i, j) and not silent
        return deed[1] in self.net.weak and self.up[deed[1]] == (deed[0] == "fall")

    def deeds(self):
        hosts, ties = range(self.net.hosts), range(len(self.net.ties))
        every = [("tell", i, j) for i in hosts for j in hosts]
        every += [(word, tie) for word in ("fall", "come") for tie in ties]
        return [deed for deed in every if self.can(deed)]

    def lose(self, host):
        self.distance[host], self.way[host], self.hold[host] = self.net.endless, None, self.net.hold
        if self.net.cry == "loud":
            for other in list(self.way):
                if self.way[other] == host:
                    self.lose(other)

    def hear(self, i, j):
        said = 0 if i == 0 else self.distance[i]
        if i != 0 and self.net.split == "poison" and self.way[i] == j:
            said = self.net.endless
        comes_to = said + 1 if said + 1 < self.net.endless else self.net.endless
        if self.way[j] == i:
            self.distance[j] = comes_to
            if comes_to == self.net.endless:
                self.lose(j)
        elif self.hold[j]:
            self.hold[j] -= 1
        elif comes_to < self.distance[j]:
            self.distance[j], self.way[j] = comes_to, i

    def do(self, deed):
        if deed[0] == "tell":
            self.hear(deed[1], deed[2])
            return
        self.up[deed[1]] = deed[0] == "come"
        if deed[0] == "fall":
            ends = self.net.ties[deed[1]]
            for host, other in (ends, ends[::-1]):
                if host != 0 and self.way[host] == other:
                    self.lose(host)

    def true(self, host):
        """The length of the shortest row of hosts that ties join, out of all rows without one twice."""
        if host == 0:
            return 0
        between = [other for other in range(1, self.net.hosts) if other != host]
        for many in range(len(between) + 1):
            for row in combinations(between, many):
                if any(self.leads((host, *order, 0)) for order in orders(row)):
                    return min(many + 1, self.net.endless)
        return self.net.endless

    def leads(self, row):
        return all(self.joined(one, other) for one, other in zip(row, row[1:]))


def orders(row):
    if not row:
        return [()]
    return [(first, *rest) for first in row for rest in orders([other for other in row if other != first])]


def behind(net, state, deed):
    model = Model(net, state)
    model.do(deed)
    return model.state()


def come_about(net):
    """All states that come about, however many."""
    found = {Model(net).state()}
    fresh = list(found)
    while fresh:
        state = fresh.pop()
        later = {behind(net, state, deed) for deed in Model(net, state).deeds()}
        fresh += later - found
        found |= later
    return found


def thinkable(net):
    """All states as in [3], whether they come about or not."""
    ways = [None, *range(net.hosts)]
    entries = list(product(range(0, net.endless + 2), ways, range(0, net.hold + 2)))
    stands = list(product((False, True), repeat=len(net.ties)))
    return product(product(entries, repeat=net.hosts - 1), stands)


def is_state(net, state):
    """Whether what `thinkable` gives is a state."""
    entries, stands = state
    if not all(up or tie in net.weak for tie, up in enumerate(stands)):
        return False
    joined = {frozenset(tie) for tie, up in zip(net.ties, stands) if up}
    for host, (distance, way, hold) in enumerate(entries, start=1):
        if not 1 <= distance <= net.endless or hold > net.hold:
            return False
        if (way is None) != (distance == net.endless):
            return False
        if way is not None and (hold or frozenset((way, host)) not in joined):
            return False
    return True


WISHES = ("climb", "misled", "ring", "wrong")


def reaches_place(net, stands, host):
    """Whether ties that stand lead from a host to the host 0, by flooding."""
    wet = {host}
    for _ in range(net.hosts):
        wet |= {other for at, tie in enumerate(net.ties) if stands[at] and wet & set(tie) for other in tie}
    return 0 in wet


def is_settled(net, state):
    return all(behind(net, state, deed) == state for deed in Model(net, state).deeds() if deed[0] == "tell")


def broken_in(net, state):
    """The wishes that a state breaks."""
    model = Model(net, state)
    broken = set()
    for host in model.way:
        path = [host]
        while model.way.get(path[-1]) is not None and path.count(path[-1]) == 1:
            path.append(model.way[path[-1]])
        if path.count(path[-1]) == 2:
            broken.add("ring")
    if is_settled(net, state) and any(model.distance[host] != model.true(host) for host in model.distance):
        broken.add("wrong")
    return broken


def broken_through(net, state, deed):
    """The wishes that a deed in a state breaks."""
    if deed[0] != "tell":
        return set()
    before, after = state[0][deed[2] - 1][0], behind(net, state, deed)[0][deed[2] - 1][0]
    broken = set()
    if before < after and after != net.endless:
        broken.add("climb")
    if before == net.endless and after != net.endless and not reaches_place(net, state[1], deed[2]):
        broken.add("misled")
    return broken


class Account:
    """All states that come about, with the least number of deeds to each, and what leads from each."""

    def __init__(self, net):
        self.net = net
        self.depth = {}
        self.steps = {}
        level, many = {Model(net).state()}, 0
        while level:
            self.depth.update(dict.fromkeys(level, many))
            for state in level:
                self.steps[state] = {deed: behind(net, state, deed) for deed in Model(net, state).deeds()}
            level = {later for state in level for later in self.steps[state].values()} - set(self.depth)
            many += 1
        self.rushes = {}

    def soonest(self):
        """A dict from each wish that is broken to the least number of deeds by which it is."""
        found = {}
        for state, depth in self.depth.items():
            rows = [(wish, depth) for wish in broken_in(self.net, state)]
            rows += [(wish, depth + 1) for deed in self.steps[state]
                     for wish in broken_through(self.net, state, deed)]
            for wish, many in rows:
                found[wish] = min(many, found.get(wish, many))
        return found

    def longest_rush(self):
        return max(self.rush(state) for state in self.steps)

    def rush(self, state):
        """The length of the longest rush from a state."""
        if state not in self.rushes:
            ahead = [self.steps[state][deed] for deed in self.steps[state] if deed[0] == "tell"]
            self.rushes[state] = max((1 + self.rush(later) for later in ahead if later != state), default=0)
        return self.rushes[state]


ACCOUNTS = {}


def many_and_soonest(net):
    """How many states come about, and what `soonest` tells; reckoned once for each net."""
    key = (net.hosts, net.ties, net.weak, net.endless, net.split, net.cry, net.hold)
    if key not in ACCOUNTS:
        account = Account(net)
        ACCOUNTS[key] = len(account.steps), account.soonest()
    return ACCOUNTS[key]


def closure(net, states):
    """These states and all to which deeds lead from them, however many."""
    found, fresh = set(states), list(states)
    while fresh:
        state = fresh.pop()
        later = {behind(net, state, deed) for deed in Model(net, state).deeds()} - found
        fresh += later
        found |= later
    return found


def is_safe_list(net, wish, states):
    """Whether a list of states is as in a Safe, told in the words of the document."""
    held = set(states)
    if Model(net).state() not in held or closure(net, held) != held:
        return False
    return not any(wish in broken_in(net, state) or wish in broken_through(net, state, deed)
                   for state in held for deed in [*Model(net, state).deeds(), ("none",)])


def ends_broken(net, wish, weaving):
    """Whether a weaving is as in a Broken, told in the words of the document."""
    model, broken = Model(net), set()
    for deed in weaving:
        if deed not in model.deeds():
            return False
        state = model.state()
        model.do(deed)
        broken = broken_through(net, state, deed) | broken_in(net, model.state())
    return wish in broken
