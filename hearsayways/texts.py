"""Nets and weavings, written line by line and read back."""

from hearsayways.checks import is_deed, need_net
from hearsayways.errors import BadNet, BadText
from hearsayways.nets import CRIES, SPLITS, Net
from hearsayways.steps import behind, start
from hearsayways.tables import woven

DIGITS = "0123456789"
# Which lines can stand behind which one, by the words with which they begin; behind the empty one stands the first.
BEHIND = {
    "": ("hosts",), "hosts": ("tie",), "tie": ("tie", "weak"), "weak": ("endless",), "endless": ("split",),
    "split": ("cry",), "cry": ("hold",), "hold": (),
}


def written(rows):
    """The text with a line for each of these lists of words and digits."""
    return "".join([" ".join([str(word) for word in row]) + "\n" for row in rows])


def net_text(net):
    """The text of a net."""
    need_net(net)
    rows = [["hosts", net.hosts]] + [["tie", low, high] for low, high in net.ties] + [["weak"] + list(net.weak)]
    rows += [["endless", net.endless], ["split", net.split], ["cry", net.cry], ["hold", net.hold]]
    return written(rows)


def weaving_text(net, history):
    """The text of a weaving."""
    # What cannot be done is refused, though the states are not needed here.
    woven(net, history)
    return written(history)


def lines_of(text):
    """The lines of a text, and what follows the last line feed."""
    if not isinstance(text, str):
        raise BadText(0)
    pieces = text.split("\n")
    return pieces[:-1], pieces[-1]


def are_digits(words):
    """Whether each of these words is one digit."""
    return all([len(word) == 1 and word in DIGITS for word in words])


def is_row(name, words):
    """Whether these are the words of a line of a net that begins with this name."""
    if words[0] != name:
        return False
    if name == "weak":
        return are_digits(words[1:])
    if name == "tie":
        return len(words) == 3 and are_digits(words[1:])
    if len(words) != 2:
        return False
    if name == "split":
        return words[1] in SPLITS
    if name == "cry":
        return words[1] in CRIES
    return are_digits(words[1:])


def last_name(rows):
    """The name of the last of these lists of words; refuses the first one that is not of the form at its place."""
    name = ""
    for at, words in enumerate(rows):
        fitting = [other for other in BEHIND[name] if is_row(other, words)]
        if len(fitting) == 0:
            raise BadText(at)
        name = fitting[0]
    return name


def net_of(rows):
    """The net that these lists of words write, each of them of the form at its place."""
    things = {words[0]: words[-1] for words in rows}
    ties = [(int(words[1]), int(words[2])) for words in rows if words[0] == "tie"]
    weak = [int(word) for words in rows if words[0] == "weak" for word in words[1:]]
    return Net(int(things["hosts"]), tuple(ties), weak=tuple(weak), endless=int(things["endless"]),
               split=things["split"], cry=things["cry"], hold=int(things["hold"]))


def read_net(text):
    """The net that a text writes."""
    lines, rest = lines_of(text)
    rows = [line.split(" ") for line in lines]
    if last_name(rows) != "hold" or rest != "":
        raise BadText(len(lines))
    try:
        return net_of(rows)
    except BadNet:
        raise BadText(len(lines)) from None


def deed_of(line):
    """The deed that a line writes, or at least a tuple of words and integers that is none."""
    return tuple([int(word) if are_digits([word]) else word for word in line.split(" ")])


def read_weaving(net, text):
    """The list of the deeds of the weaving that a text writes."""
    need_net(net)
    lines, rest = lines_of(text)
    state = start(net)
    history = []
    for line in lines:
        deed = deed_of(line)
        if not is_deed(net, state, deed):
            raise BadText(len(history))
        state = behind(net, state, deed)
        history.append(deed)
    if rest != "":
        raise BadText(len(lines))
    return history
