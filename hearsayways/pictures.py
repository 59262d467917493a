"""What distances can be seen at one time, and whether two nets are alike in this, with weavings as evidence."""

from hearsayways.checks import closed_links, need_net, states_along
from hearsayways.errors import Unlike
from hearsayways.kinds import is_integer, is_within
from hearsayways.steps import distances, start
from hearsayways.walks import walked, weaving_to


def need_as_many(one, other):
    """Refuses two nets that have not as many hosts."""
    if one.hosts != other.hosts:
        raise Unlike("not as many hosts")


def picture_of(state):
    """The distances of all hosts other than 0."""
    return tuple(distances(state)[1:])


def leads_to_picture(net, weaving, picture):
    """Whether these deeds can be done, from the first state on, and the state behind them has the picture."""
    states = [start(net)] + states_along(net, start(net), weaving)
    if len(states) <= len(weaving) or not isinstance(picture, tuple):
        return False
    # Booleans are equal to integers, so that the distances alone would let them pass.
    return all([is_integer(distance) for distance in picture]) and picture_of(states[-1]) == picture


class Pictures:
    """Evidence for all pictures of a net: a weaving to each, and a closed list of states that have no other one."""

    def __init__(self, weavings, states):
        self.weavings = {picture: tuple(weavings[picture]) for picture in weavings}
        self.states = list(states)

    def __eq__(self, other):
        return isinstance(other, Pictures) and self.weavings == other.weavings and self.states == other.states

    def shows(self, net):
        """Whether the weavings lead to their pictures, and the states show that there are no others."""
        need_net(net)
        for picture, weaving in self.weavings.items():
            if not leads_to_picture(net, weaving, picture):
                return False
        if closed_links(net, self.states) is None:
            return False
        return all([picture_of(state) in self.weavings for state in self.states])


class Alike:
    """Evidence that two nets are alike: all pictures of each, which are the same."""

    def __init__(self, one, other):
        self.one = Pictures(one.weavings, one.states)
        self.other = Pictures(other.weavings, other.states)

    def __eq__(self, other):
        return isinstance(other, Alike) and self.one == other.one and self.other == other.other

    def shows(self, one, other):
        """Whether these are shown to be all pictures of each net, and the same ones."""
        need_net(one)
        need_net(other)
        need_as_many(one, other)
        if not self.one.shows(one) or not self.other.shows(other):
            return False
        return sorted(list(self.one.weavings)) == sorted(list(self.other.weavings))


class Parted:
    """Evidence that two nets are not alike: a picture that the one with this number has, and the other one has not."""

    def __init__(self, picture, number, weaving, states):
        self.picture = picture
        self.number = number
        self.weaving = tuple(weaving)
        self.states = list(states)

    def __eq__(self, other):
        return (isinstance(other, Parted) and self.picture == other.picture and self.number == other.number
                and self.weaving == other.weaving and self.states == other.states)

    def shows(self, one, other):
        """Whether the weaving leads to the picture in its net, and the states show that it is none of the other's."""
        need_net(one)
        need_net(other)
        need_as_many(one, other)
        if not is_within(self.number, 0, 1):
            return False
        having, lacking = (one, other) if self.number == 0 else (other, one)
        if not leads_to_picture(having, self.weaving, self.picture) or closed_links(lacking, self.states) is None:
            return False
        return all([picture_of(state) != self.picture for state in self.states])


def pictured(net):
    """A Pictures for the net."""
    need_net(net)
    links, origins = walked(net)
    nearest = {}
    for state in links:
        picture = picture_of(state)
        if picture not in nearest:
            nearest[picture] = state
    weavings = {picture: weaving_to(origins, nearest[picture]) for picture in sorted(list(nearest))}
    return Pictures(weavings, list(links))


def pictures(net):
    """The ascending list of all pictures of the net."""
    return list(pictured(net).weavings)


def parted_by(number, having, lacking):
    """A Parted for the first picture that only one of two nets has, the one with this number; None if it has none."""
    for picture, weaving in having.weavings.items():
        if picture not in lacking.weavings:
            return Parted(picture, number, weaving, lacking.states)
    return None


def compare(one, other):
    """An Alike for two nets with the same pictures, a Parted for others."""
    need_net(one)
    need_net(other)
    need_as_many(one, other)
    first, second = pictured(one), pictured(other)
    for number, having, lacking in ((0, first, second), (1, second, first)):
        found = parted_by(number, having, lacking)
        if found is not None:
            return found
    return Alike(first, second)


def are_alike(one, other):
    """Whether two nets have the same pictures."""
    return isinstance(compare(one, other), Alike)
