"""What it costs at least to break a wish, when deeds have rates, with floors for the price as evidence."""

from heapq import heappop, heappush

from hearsayways.checks import is_state, need_net
from hearsayways.errors import BadRates
from hearsayways.judging import need_wish
from hearsayways.kinds import is_group, is_integer, is_within
from hearsayways.steps import leads, start
from hearsayways.tables import woven
from hearsayways.walks import walked, weaving_to
from hearsayways.wishes import closed_unbroken, deed_breaks, state_breaks, weaving_breaks

MOST_RATE = 9
RATED = ("tell", "fall", "come")


def need_rates(rates):
    """Refuses what is not a triple of rates."""
    if not is_group(rates, 3) or not all([is_within(rate, 0, MOST_RATE) for rate in rates]):
        raise BadRates("not a triple of rates")


def rate_of(rates, deed):
    """The rate of a deed."""
    return rates[RATED.index(deed[0])]


def price_of(rates, history):
    """The price of a weaving."""
    return sum([rate_of(rates, deed) for deed in history])


def is_price(thing):
    """Whether this is an integer of at least 0."""
    return is_integer(thing) and thing >= 0


def keeps_floor(net, rates, wish, floors, state):
    """Whether the integer of a state is not too great for what can be done in it."""
    floor, ahead = floors[state], leads(net, state)
    if floor > 0 and state_breaks(net, wish, state, ahead):
        return False
    for deed, later in ahead:
        rate = rate_of(rates, deed)
        if deed_breaks(net, wish, state, deed, later):
            if rate < floor:
                return False
        elif later not in floors or floors[later] + rate < floor:
            return False
    return True


class Harm:
    """Evidence for the least price at which a wish is broken: a weaving with it, and floors for what is to be paid."""

    def __init__(self, price, weaving, floors):
        self.price = price
        self.weaving = list(weaving)
        self.floors = {state: floors[state] for state in floors}

    def __eq__(self, other):
        return (isinstance(other, Harm) and self.price == other.price and self.weaving == other.weaving
                and self.floors == other.floors)

    def shows(self, net, rates, wish):
        """Whether the weaving breaks the wish at this price, and the floors show that none does for less."""
        need_net(net)
        need_rates(rates)
        need_wish(wish)
        if not is_price(self.price) or not weaving_breaks(net, wish, self.weaving):
            return False
        if price_of(rates, self.weaving) != self.price or self.floors.get(start(net)) != self.price:
            return False
        for state, floor in self.floors.items():
            if not is_price(floor) or not is_state(net, state):
                return False
        return all([keeps_floor(net, rates, wish, self.floors, state) for state in self.floors])


class NoHarm:
    """Evidence that a wish is not broken at any price: a closed list of states, in none of which it is."""

    def __init__(self, states):
        self.states = list(states)

    def __eq__(self, other):
        return isinstance(other, NoHarm) and self.states == other.states

    def shows(self, net, rates, wish):
        """Whether the states show that the wish cannot be broken."""
        need_net(net)
        need_rates(rates)
        need_wish(wish)
        return closed_unbroken(net, (wish,), self.states)


def cheapest_ways(links, rates):
    """Two dicts from all states: to the least price of a weaving, and to the state and the deed before, as `walked`.

    Of weavings that cost as little, it is one with as few deeds as possible.
    """
    states = list(links)
    numbers = {state: at for at, state in enumerate(states)}
    best, origins, prices = {states[0]: (0, 0)}, {states[0]: None}, {}
    queue = [(0, 0, 0)]
    while len(queue) > 0:
        price, many, at = heappop(queue)
        state = states[at]
        if state in prices:
            continue
        prices[state] = price
        for deed, later in links[state]:
            cost = price + rate_of(rates, deed), many + 1
            if later not in best or cost < best[later]:
                best[later] = cost
                origins[later] = (state, deed)
                heappush(queue, (cost[0], cost[1], numbers[later]))
    return prices, origins


def harmful_weavings(net, wish, links, origins):
    """For each state that breaks the wish, and each deed that does, a cheapest weaving that ends by it."""
    found = []
    for state, ahead in links.items():
        if state_breaks(net, wish, state, ahead):
            found.append(weaving_to(origins, state))
        for deed, later in ahead:
            if deed_breaks(net, wish, state, deed, later):
                found.append(weaving_to(origins, state) + [deed])
    return found


def harm(net, rates, wish):
    """A Harm or a NoHarm for the wish."""
    need_net(net)
    need_rates(rates)
    need_wish(wish)
    links, _ = walked(net)
    prices, origins = cheapest_ways(links, rates)
    found = harmful_weavings(net, wish, links, origins)
    if len(found) == 0:
        return NoHarm(list(links))
    price = min([price_of(rates, weaving) for weaving in found])
    weaving = min([weaving for weaving in found if price_of(rates, weaving) == price], key=len)
    # Whoever has paid so much to come to a state has to pay at least the rest.
    floors = {state: max(0, price - prices[state]) for state in links}
    return Harm(price, weaving, floors)


def least_harm(net, rates, wish):
    """The least price at which the wish is broken, None if it cannot be broken."""
    found = harm(net, rates, wish)
    if isinstance(found, NoHarm):
        return None
    return found.price


def weaving_price(net, rates, weaving):
    """The price of a weaving."""
    need_net(net)
    need_rates(rates)
    woven(net, weaving)
    return price_of(rates, weaving)
