"""Nets: hosts, the ties between them, and the rules by which the hosts tell."""

from hearsayways.errors import BadNet, BadTie
from hearsayways.kinds import is_group, is_rising, is_within, is_word

LEAST_HOSTS = 2
MOST_HOSTS = 4
MOST_TIES = 5
MOST_WEAK = 3
LEAST_ENDLESS = 2
MOST_ENDLESS = 5
MOST_HOLD = 2
RULES = ("endless", "split", "cry", "hold")
SPLITS = ("plain", "poison", "quiet")
CRIES = ("loud", "still")


def is_tie(thing, hosts):
    """Whether this is a pair of two hosts, the lesser number first."""
    if not is_group(thing, 2):
        return False
    low, high = thing
    return is_within(low, 0, hosts - 1) and is_within(high, 0, hosts - 1) and low < high


def are_ties(things, hosts):
    """Whether these can be all ties of a net with so many hosts."""
    if not isinstance(things, tuple) or not 1 <= len(things) <= MOST_TIES:
        return False
    return all([is_tie(thing, hosts) for thing in things]) and is_rising(things)


def are_weak(things, many):
    """Whether these can be all weak ties of a net with so many ties."""
    if not isinstance(things, tuple) or len(things) > MOST_WEAK:
        return False
    return all([is_within(thing, 0, many - 1) for thing in things]) and is_rising(things)


def wrong_rule(endless, split, cry, hold):
    """The name of the first rule that is not as it has to be, None if all are."""
    if not is_within(endless, LEAST_ENDLESS, MOST_ENDLESS):
        return "endless"
    if not is_word(split, SPLITS):
        return "split"
    if not is_word(cry, CRIES):
        return "cry"
    if not is_within(hold, 0, MOST_HOLD):
        return "hold"
    return None


def wrong_shape(hosts, ties, weak):
    """The name of the first of these parts that is not as it has to be, None if all are."""
    if not is_within(hosts, LEAST_HOSTS, MOST_HOSTS):
        return "hosts"
    if not are_ties(ties, hosts):
        return "ties"
    if not are_weak(weak, len(ties)):
        return "weak"
    return None


class Net:
    """Hosts, the ties between them, those ties that may fall, and four rules."""

    def __init__(self, hosts, ties, *, weak=(), endless=4, split="plain", cry="still", hold=0):
        part = wrong_shape(hosts, ties, weak)
        if part is None:
            part = wrong_rule(endless, split, cry, hold)
        if part is not None:
            raise BadNet(part)
        self.hosts = hosts
        self.ties = ties
        self.weak = weak
        self.endless = endless
        self.split = split
        self.cry = cry
        self.hold = hold

    def __eq__(self, other):
        return (isinstance(other, Net) and self.hosts == other.hosts and self.ties == other.ties
                and self.weak == other.weak and self.endless == other.endless and self.split == other.split
                and self.cry == other.cry and self.hold == other.hold)

    def __len__(self):
        return len(range(self.hosts))

    def __getitem__(self, at):
        if not is_within(at, 0, len(self.ties) - 1):
            raise BadTie("not the number of a tie")
        return self.ties[at]

    def __iter__(self):
        raise TypeError("a Net is not iterated over")

    def but(self, name, thing):
        """The net with another thing for the rule of this name."""
        if not is_word(name, RULES):
            raise BadNet(None)
        rules = {"endless": self.endless, "split": self.split, "cry": self.cry, "hold": self.hold}
        rules[name] = thing
        return Net(self.hosts, self.ties, weak=self.weak, endless=rules["endless"], split=rules["split"],
                   cry=rules["cry"], hold=rules["hold"])

    def with_weak(self, weak):
        """The net with other weak ties."""
        return Net(self.hosts, self.ties, weak=weak, endless=self.endless, split=self.split, cry=self.cry,
                   hold=self.hold)
