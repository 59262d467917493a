"""Nets, and wrong arguments, that several tests use."""

from hearsayways.nets import Net

from tests import model

LINE = Net(3, ((0, 1), (1, 2)), weak=(0,))
LONG = Net(4, ((0, 1), (1, 2), (2, 3)), weak=(0, 1, 2), endless=5)
RING = Net(3, ((0, 1), (0, 2), (1, 2)), weak=(0, 1, 2))
PAIR = Net(2, ((0, 1),), weak=(0,))
# 791 states come about in the first one, the most up to 800 that there are in any net, and 806 in the second one.
LARGE = Net(4, ((0, 1), (0, 2), (0, 3), (1, 2)), weak=(0, 1, 2), hold=2)
TOO_LARGE = Net(4, ((0, 1), (0, 2), (0, 3), (1, 2), (1, 3)), weak=(0, 1, 3), split="poison", hold=2)

ODD = [None, True, False, 0, 1, -1, 10 ** 30, 3 + 0j, "", "3", b"3", [], {}, (), set(), [3], object(), Net, LINE, len]
NO_NETS = [None, True, 3, "net", (3, ((0, 1), (1, 2))), [], {}, Net, object()]
NO_WISHES = [
    "Ring", "ring ", " ring", "rings", "rin", "safe", "tell", ["ring"], ("ring",), {"ring": True}, {"ring"}, b"ring",
    *ODD,
]
RING_WEAVING = [("tell", 0, 1), ("tell", 1, 2), ("fall", 0), ("tell", 2, 1)]
# What no deed can be, in the first state of LINE or at all.
NO_DEEDS = [
    ("tell", 1, 0), ("tell", 0, 2), ("tell", 0, 0), ("tell", 3, 1), ("tell", -1, 1), ("fall", 1), ("fall", 9),
    ("come", 0), ("hop",), ("tell",), ("tell", 0), ("tell", 0, 1, 2), ("fall",), ("fall", 0, 0), ("sing", 0),
    ("tell", False, 1), ("tell", 0, True), ("fall", False),
]


def varied_nets():
    """Nets of two and three hosts, and some of four, so chosen that all rules occur, and all shapes of three hosts."""
    for hosts in (2, 3):
        for at, shape in enumerate(model.shapes(hosts)):
            for rules in model.RULES[at % 7::7]:
                yield Net(shape[0], shape[1], weak=shape[2], **rules)
    for at, shape in enumerate(model.shapes(4)):
        if at % 10 == 0:
            yield Net(shape[0], shape[1], weak=shape[2], **model.RULES[at * 7 // 10 % len(model.RULES)])


# What is no host of LINE, or only the host 0.
NO_HOSTS = [
    0, -1, 3, 4, 10 ** 30, None, True, False, "1", b"1", "", [], [1], (1,), {}, {1: 1}, {1}, 1 + 0j, object(), len, Net,
]
