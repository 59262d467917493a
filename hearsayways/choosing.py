"""The cheapest rules for a net with which no wish is broken that one hopes for, when changes of rules have prices."""

from hearsayways.checks import need_net
from hearsayways.errors import BadChoice, BadPrices, BadWish
from hearsayways.judging import WISHES
from hearsayways.kinds import is_group, is_integer, is_rising, is_within, is_word
from hearsayways.nets import CRIES, LEAST_ENDLESS, MOST_ENDLESS, MOST_HOLD, RULES, SPLITS, Net
from hearsayways.walks import walked
from hearsayways.wishes import closed_unbroken, soonest_broken, weaving_breaks

MOST_PRICE = 9
MOST_HOPES = 3


def need_prices(prices):
    """Refuses what is not a dict from names of rules to prices."""
    if not isinstance(prices, dict) or len(prices) == 0:
        raise BadPrices("not a dict with a price")
    for name, price in prices.items():
        if not is_word(name, RULES) or not is_within(price, 1, MOST_PRICE):
            raise BadPrices("not a price of a rule")


def need_hopes(hopes):
    """Refuses what is not an ascending tuple of one to three wishes."""
    if not isinstance(hopes, tuple) or not 1 <= len(hopes) <= MOST_HOPES:
        raise BadWish("not one to three wishes")
    if not all([is_word(wish, WISHES) for wish in hopes]) or not is_rising(hopes):
        raise BadWish("not ascending wishes")


def rules_of(net):
    """What the rules of a net are, in order."""
    return net.endless, net.split, net.cry, net.hold


def with_rules(net, choice):
    """The net with these rules."""
    endless, split, cry, hold = choice
    return Net(net.hosts, net.ties, weak=net.weak, endless=endless, split=split, cry=cry, hold=hold)


def ways_to_choose(net, prices):
    """For each rule the list of what can be chosen for it."""
    every = [list(range(LEAST_ENDLESS, MOST_ENDLESS + 1)), list(SPLITS), list(CRIES), list(range(MOST_HOLD + 1))]
    own = rules_of(net)
    return [every[at] if name in prices else [own[at]] for at, name in enumerate(RULES)]


def cost_of(net, prices, choice):
    """What a choice costs: the prices of the rules for which it has something else than the net."""
    own = rules_of(net)
    return sum([prices[name] for at, name in enumerate(RULES) if choice[at] != own[at]])


def ordered_choices(net, prices):
    """All choices, the cheaper ones first."""
    endless_ways, split_ways, cry_ways, hold_ways = ways_to_choose(net, prices)
    every = [(endless, split, cry, hold) for endless in endless_ways for split in split_ways
             for cry in cry_ways for hold in hold_ways]
    ranked = sorted([(cost_of(net, prices, choice), choice) for choice in every])
    return [choice for _, choice in ranked]


def is_choice(every, thing):
    """Whether this is one of all these choices."""
    if not is_group(thing, 4):
        return False
    endless, split, cry, hold = thing
    # Booleans are equal to integers, so that the list of all choices alone would let them pass.
    if not is_integer(endless) or not is_integer(hold):
        return False
    return is_word(split, SPLITS) and is_word(cry, CRIES) and thing in every


def shows_broken(net, hopes, pair):
    """Whether this pair is one of the hopes and a weaving by which it is broken."""
    wish, weaving = pair
    return is_word(wish, hopes) and weaving_breaks(net, wish, weaving)


def is_against(net, hopes, every, against):
    """Whether these are pairs against exactly all these choices, by which each of them breaks one of the hopes."""
    if len(against) != len(every):
        return False
    for choice, pair in against.items():
        if not is_choice(every, choice) or not shows_broken(with_rules(net, choice), hopes, pair):
            return False
    return True


def pairs_copied(against):
    """A new dict of the same pairs, with the weavings as tuples."""
    return {choice: (wish, tuple(weaving)) for choice, (wish, weaving) in against.items()}


class Cheapest:
    """Evidence for a cheapest good choice: its states, and a broken hope for each choice that costs less."""

    def __init__(self, choice, states, against):
        self.choice = choice
        self.states = list(states)
        self.against = pairs_copied(against)

    def __eq__(self, other):
        return (isinstance(other, Cheapest) and self.choice == other.choice and self.states == other.states
                and self.against == other.against)

    def shows(self, net, prices, hopes):
        """Whether the choice is shown to be good, and those that cost less not to be."""
        need_net(net)
        need_prices(prices)
        need_hopes(hopes)
        every = ordered_choices(net, prices)
        if not is_choice(every, self.choice):
            return False
        cost = cost_of(net, prices, self.choice)
        cheaper = [choice for choice in every if cost_of(net, prices, choice) < cost]
        return (closed_unbroken(with_rules(net, self.choice), hopes, self.states)
                and is_against(net, hopes, cheaper, self.against))


class NoRules:
    """Evidence that no choice is good: a broken hope for each."""

    def __init__(self, against):
        self.against = pairs_copied(against)

    def __eq__(self, other):
        return isinstance(other, NoRules) and self.against == other.against

    def shows(self, net, prices, hopes):
        """Whether each choice is shown not to be good."""
        need_net(net)
        need_prices(prices)
        need_hopes(hopes)
        return is_against(net, hopes, ordered_choices(net, prices), self.against)


def choices(net, prices):
    """The list of all choices, in order."""
    need_net(net)
    need_prices(prices)
    return ordered_choices(net, prices)


def chosen(net, prices, choice):
    """The net with the rules of a choice."""
    need_net(net)
    need_prices(prices)
    if not is_choice(ordered_choices(net, prices), choice):
        raise BadChoice("not a choice")
    return with_rules(net, choice)


def broken_hope(net, hopes, links, origins):
    """A pair of the first hope that is broken and a weaving by which it is, None if none is broken."""
    for wish in hopes:
        weaving = soonest_broken(net, wish, links, origins)
        if weaving is not None:
            return wish, weaving
    return None


def cheapest(net, prices, hopes):
    """A Cheapest for the first good choice, or a NoRules."""
    need_net(net)
    need_prices(prices)
    need_hopes(hopes)
    against = {}
    for choice in ordered_choices(net, prices):
        changed = with_rules(net, choice)
        links, origins = walked(changed)
        pair = broken_hope(changed, hopes, links, origins)
        if pair is None:
            cost = cost_of(net, prices, choice)
            # Choices that cost as much come earlier, too, but nothing is asked about them.
            cheaper = [other for other in against if cost_of(net, prices, other) < cost]
            return Cheapest(choice, list(links), {other: against[other] for other in cheaper})
        against[choice] = pair
    return NoRules(against)


def least_cost(net, prices, hopes):
    """What a cheapest good choice costs, None if none is good."""
    found = cheapest(net, prices, hopes)
    if isinstance(found, NoRules):
        return None
    return cost_of(net, prices, found.choice)
