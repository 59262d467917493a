"""What can be done in a state and where it leads, for arguments that are known to be right."""


def start(net):
    """The state in which no host has heard anything yet, and all ties stand."""
    entries = tuple([(net.endless, None, 0) for _ in range(net.hosts - 1)])
    stands = tuple([True for _ in net.ties])
    return entries, stands


def way_of(entries, host):
    """The host by which a host goes, None if it goes by none."""
    if host == 0:
        return None
    return entries[host - 1][1]


def standing_pairs(net, stands):
    """All ordered pairs of hosts that a tie joins that stands."""
    pairs = []
    for (low, high), up in zip(net.ties, stands):
        if up:
            pairs.append((low, high))
            pairs.append((high, low))
    return pairs


def possible(net, state):
    """All deeds that can be done in a state, in order."""
    entries, stands = state
    tells = [("tell", teller, hearer) for teller, hearer in standing_pairs(net, stands) if hearer != 0]
    if net.split == "quiet":
        tells = [tell for tell in tells if way_of(entries, tell[1]) != tell[2]]
    falls = [("fall", tie) for tie in net.weak if stands[tie]]
    comes = [("come", tie) for tie in net.weak if not stands[tie]]
    return sorted(tells) + falls + comes


def heard(net, entries, teller, hearer):
    """The distance that one host hears when the other tells it."""
    if teller == 0:
        return 0
    if net.split == "poison" and way_of(entries, teller) == hearer:
        return net.endless
    return entries[teller - 1][0]


def with_entry(entries, host, entry):
    """The entries with another one for a host."""
    return entries[:host - 1] + (entry,) + entries[host:]


def made_endless(net, entries, hosts):
    """The entries after the ways of these hosts have become endless."""
    waiting = list(hosts)
    while waiting:
        host = waiting.pop()
        entries = with_entry(entries, host, (net.endless, None, net.hold))
        if net.cry == "loud":
            waiting += [other for other in range(1, net.hosts) if way_of(entries, other) == host]
    return entries


def behind_tell(net, entries, teller, hearer):
    """The entries after a host has told its distance to another."""
    distance, way, hold = entries[hearer - 1]
    reached = min(heard(net, entries, teller, hearer) + 1, net.endless)
    if way == teller and reached == net.endless:
        return made_endless(net, entries, [hearer])
    if way == teller:
        return with_entry(entries, hearer, (reached, teller, 0))
    if hold > 0:
        return with_entry(entries, hearer, (distance, way, hold - 1))
    if reached < distance:
        return with_entry(entries, hearer, (reached, teller, 0))
    return entries


def behind_fall(net, entries, tie):
    """The entries after a tie has fallen."""
    low, high = net.ties[tie]
    cut = [host for host, other in ((low, high), (high, low)) if way_of(entries, host) == other]
    return made_endless(net, entries, cut)


def with_standing(stands, tie, up):
    """For each tie whether it stands, when this one is set to `up`."""
    return stands[:tie] + (up,) + stands[tie + 1:]


def behind(net, state, deed):
    """The state behind a deed that can be done in a state."""
    entries, stands = state
    if deed[0] == "tell":
        return behind_tell(net, entries, deed[1], deed[2]), stands
    if deed[0] == "fall":
        return behind_fall(net, entries, deed[1]), with_standing(stands, deed[1], False)
    return entries, with_standing(stands, deed[1], True)


def leads(net, state):
    """The pairs of each deed that can be done in a state, in order, and the state behind it."""
    return [(deed, behind(net, state, deed)) for deed in possible(net, state)]


def least_ties(net, stands):
    """For each host the least number of ties that stand on a way to the host 0, None if there is no way."""
    least = [0] + [None for _ in range(1, net.hosts)]
    pairs = standing_pairs(net, stands)
    # A shortest way has fewer ties than there are hosts.
    for many in range(1, net.hosts):
        for nearer, farther in pairs:
            if least[nearer] == many - 1 and least[farther] is None:
                least[farther] = many
    return least


def distances(state):
    """The distances of all hosts, 0 for the host 0."""
    entries, _ = state
    return [0] + [entry[0] for entry in entries]


def true_distances(net, stands):
    """The true distances of all hosts: their least numbers of ties, at most the endless distance."""
    return [net.endless if many is None else min(many, net.endless) for many in least_ties(net, stands)]


def are_true(net, state):
    """Whether the distances of all hosts are the true ones."""
    return distances(state) == true_distances(net, state[1])
