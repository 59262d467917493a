"""How long tellings can go on that change something, with a rush and a number for each state as evidence."""

from hearsayways.checks import closed_links, need_net, states_along
from hearsayways.kinds import is_within
from hearsayways.steps import start
from hearsayways.walks import walked, weaving_to


def rush_steps(state, ahead):
    """Those steps that a rush can take, of what leads from a state: by a `tell` to another state."""
    return [(deed, later) for deed, later in ahead if deed[0] == "tell" and later != state]


def rush_numbers(steps):
    """A dict from each state to the length of a longest rush from it, by the steps that rushes can take."""
    numbers = {state: 0 for state in steps}
    left = {state: len(ahead) for state, ahead in steps.items()}
    before = {state: [] for state in steps}
    for state, ahead in steps.items():
        for _, later in ahead:
            before[later].append(state)
    # No rush leads back, so each state gets ready when all to which its steps lead have their numbers.
    ready = [state for state in steps if left[state] == 0]
    at = 0
    while at < len(ready):
        later = ready[at]
        for state in before[later]:
            numbers[state] = max(numbers[state], numbers[later] + 1)
            left[state] -= 1
            if left[state] == 0:
                ready.append(state)
        at += 1
    return numbers


def rush_from(steps, numbers, state):
    """A longest rush from a state, when each state has the length of its longest one."""
    rush = []
    while numbers[state] > 0:
        less = numbers[state] - 1
        deed, state = [step for step in steps[state] if numbers[step[1]] == less][0]
        rush.append(deed)
    return rush


def is_rush(net, state, rush):
    """Whether these are tells that can be done from a state on, and each leads to another state."""
    states = [state] + states_along(net, state, rush)
    if len(states) <= len(rush):
        return False
    return all([deed[0] == "tell" and states[at] != states[at + 1] for at, deed in enumerate(rush)])


def are_numbers(net, most, numbers):
    """Whether the numbers, up to the greatest one, fall by each step of a rush from each of these states."""
    links = closed_links(net, list(numbers))
    if links is None or not all([is_within(number, 0, most) for number in numbers.values()]):
        return False
    for state, ahead in links.items():
        if not all([numbers[later] < numbers[state] for deed, later in rush_steps(state, ahead)]):
            return False
    return True


class Longest:
    """Evidence of how long rushes can be: one of them, a weaving ahead of it, and a number for each state."""

    def __init__(self, ahead, rush, numbers):
        self.ahead = list(ahead)
        self.rush = list(rush)
        self.numbers = {state: numbers[state] for state in numbers}

    def __eq__(self, other):
        return (isinstance(other, Longest) and self.ahead == other.ahead and self.rush == other.rush
                and self.numbers == other.numbers)

    def shows(self, net):
        """Whether the rush can be done behind the weaving, and the numbers show that none is longer."""
        need_net(net)
        states = [start(net)] + states_along(net, start(net), self.ahead)
        if len(states) <= len(self.ahead) or not is_rush(net, states[-1], self.rush):
            return False
        return are_numbers(net, len(self.rush), self.numbers)


def longest(net):
    """A Longest, with a longest rush."""
    need_net(net)
    links, origins = walked(net)
    steps = {state: rush_steps(state, ahead) for state, ahead in links.items()}
    numbers = rush_numbers(steps)
    most = max(numbers.values())
    top = [state for state in numbers if numbers[state] == most][0]
    return Longest(weaving_to(origins, top), rush_from(steps, numbers, top), numbers)


def longest_rush(net):
    """The length of a longest rush."""
    return len(longest(net).rush)
