"""[13] and texts.py of the interface."""

import random
import unittest

from hearsayways.errors import BadNet, BadText, BadWeaving
from hearsayways.nets import Net
from hearsayways.texts import net_text, read_net, read_weaving, weaving_text

from tests import model
from tests.samples import LINE, LONG, NO_DEEDS, NO_NETS, PAIR, RING, RING_WEAVING, TOO_LARGE, varied_nets

LINES = ["hosts 3", "tie 0 1", "tie 1 2", "weak 0", "endless 4", "split plain", "cry still", "hold 0"]
TEXT = "".join(line + "\n" for line in LINES)
WOVEN = ["tell 0 1", "tell 1 2", "fall 0", "tell 2 1"]
NO_TEXTS = [None, True, False, 0, 3, b"", b"hosts 3\n", [], ["hosts 3\n"], (), {}, set(), object(), LINE, len]
# For each line of TEXT, what does not stand in its place.
NO_LINES = {
    0: ["", "hosts", "hosts 10", "hosts  3", " hosts 3", "hosts 3 ", "hosts 3 3", "hosts three", "hosts -1", "Hosts 3",
        "host 3", "hosts\t3", "hosts 3\r", "hosts +3", "hosts x", "hosts _", "tie 0 1", "weak 0", "hosts3", "3 hosts"],
    1: ["", "tie", "tie 0", "tie 0 1 2", "tie 0  1", "tie 0 12", "tie 0 -1", "tie (0, 1)", "tie 0,1", "tie 01",
        "ties 0 1", "tie 0 1 ", " tie 0 1", "weak 0", "weak", "endless 4", "hosts 3", "tie 0 1\r", "tie 0 x", "tie  0"],
    2: ["", "tie", "tie 0", "tie 0 1 2", "endless 4", "hosts 3", "tie 1 two", "split plain", "hold 0"],
    3: ["", "weak ", "weak  0", " weak 0", "weak 0 ", "weak 01", "weak 0 10", "weak x", "weak -1", "weak 0,1",
        "weak 0 1 ", "Weak 0", "weaks 0", "weak none", "endless 4", "hosts 3", "weak\t0", "weak 0  1"],
    4: ["", "endless", "endless 10", "endless four", "endless 4 4", "endless  4", "endless 4 ", "split plain", "hold 0",
        "weak 0", "tie 0 1", "endless -4", "Endless 4"],
    5: ["", "split", "split Plain", "split venom", "split plain ", "split  plain", "split plain quiet", "split 0",
        "split loud", "cry still", "endless 4", "split 'plain'", "split plai", "split plain\r"],
    6: ["", "cry", "cry Loud", "cry plain", "cry still ", "cry  still", "cry loud still", "cry 0", "hold 0",
        "split plain", "cry loudly"],
    7: ["", "hold", "hold 10", "hold none", "hold 0 ", "hold  0", "hold 0 0", "cry still", "endless 4", "hold -1",
        "hold\t0", "hosts 3"],
}


def text_of(lines):
    return "".join(line + "\n" for line in lines)


class Examples(unittest.TestCase):
    def test_example(self):
        net = Net(3, ((0, 1), (1, 2)), weak=(0,), split="quiet")
        self.assertEqual(
            [net_text(net), read_net(net_text(net)) == net, weaving_text(net, [("tell", 0, 1), ("fall", 0)]),
             read_weaving(net, "fall 0\ncome 0\n")],
            ["hosts 3\ntie 0 1\ntie 1 2\nweak 0\nendless 4\nsplit quiet\ncry still\nhold 0\n", True,
             "tell 0 1\nfall 0\n", [("fall", 0), ("come", 0)]])

    def test_texts_of_nets(self):
        self.assertEqual(net_text(LINE), TEXT)
        self.assertEqual(net_text(Net(2, ((0, 1),), endless=2, split="poison", cry="loud", hold=2)),
                         "hosts 2\ntie 0 1\nweak\nendless 2\nsplit poison\ncry loud\nhold 2\n")
        net = Net(4, ((0, 1), (0, 2), (0, 3), (1, 2), (1, 3)), weak=(0, 1, 3), endless=5)
        self.assertEqual(net_text(net), "hosts 4\ntie 0 1\ntie 0 2\ntie 0 3\ntie 1 2\ntie 1 3\nweak 0 1 3\n"
                                        "endless 5\nsplit plain\ncry still\nhold 0\n")

    def test_texts_of_weavings(self):
        self.assertEqual(weaving_text(LINE, RING_WEAVING), text_of(WOVEN))
        self.assertEqual(weaving_text(LINE, tuple(RING_WEAVING)), text_of(WOVEN))
        self.assertEqual(weaving_text(LINE, [("fall", 0), ("come", 0)]), "fall 0\ncome 0\n")
        self.assertEqual((weaving_text(LINE, []), weaving_text(LINE, ())), ("", ""))
        self.assertEqual(read_weaving(LINE, ""), [])


class WrittenAndReadBack(unittest.TestCase):
    def test_nets(self):
        for net in varied_nets():
            text = net_text(net)
            again = read_net(text)
            self.assertIsInstance(again, Net)
            self.assertEqual(again, net)
            self.assertEqual(vars(again), vars(net))
            self.assertEqual(net_text(again), text)

    def test_nets_have_texts_of_their_own(self):
        nets = list(varied_nets())
        self.assertEqual(len({net_text(net) for net in nets}), len(nets))

    def test_weavings(self):
        for at, net in enumerate([LINE, PAIR, RING.but("split", "quiet"), LONG.but("hold", 2), TOO_LARGE] * 4):
            chance, made, history = random.Random(at), model.Model(net), []
            for _ in range(at * 3):
                history.append(chance.choice(made.deeds()))
                made.do(history[-1])
            text = weaving_text(net, history)
            self.assertEqual(text, text_of(" ".join(map(str, deed)) for deed in history))
            self.assertEqual(read_weaving(net, text), history)
            self.assertEqual([list(map(type, deed)) for deed in read_weaving(net, text)],
                             [list(map(type, deed)) for deed in history])


class NetTexts(unittest.TestCase):
    def refuse(self, text, row):
        with self.subTest(text=text), self.assertRaises(BadText) as caught:
            read_net(text)
        self.assertIs(type(caught.exception), BadText)
        self.assertEqual(caught.exception.row, row)

    def test_no_text(self):
        for text in NO_TEXTS:
            self.refuse(text, 0)

    def test_a_line_changed(self):
        for at, changed in NO_LINES.items():
            for line in changed:
                self.refuse(text_of(LINES[:at] + [line] + LINES[at + 1:]), at)
                # The first wrong line is told, whatever follows it.
                self.refuse(text_of(LINES[:at] + [line] + LINES[at + 1:]) + "rest", at)
                self.refuse(text_of(LINES[:at] + [line]), at)

    def test_digits_are_ascii(self):
        for sign in ("\u0663", "\u00b2", "\u2460", "\uff13"):
            self.refuse(text_of(["hosts " + sign, *LINES[1:]]), 0)
            self.refuse(text_of([*LINES[:3], "weak " + sign, *LINES[4:]]), 3)

    def test_only_line_feeds_end_lines(self):
        for sign in ("\r", "\x0b", "\x0c", "\x1c", "\x85", "\u2028", "\r\n"):
            self.refuse(sign.join(LINES) + "\n", 0)
        self.refuse(TEXT.replace("hosts 3\n", "hosts 3\r\n"), 0)

    def test_a_line_left_out(self):
        for at, row in ((0, 0), (3, 3), (4, 4), (5, 5), (6, 6)):
            self.refuse(text_of(LINES[:at] + LINES[at + 1:]), row)
        # Without the last line, it is missing; with one tie less, it is a net, or it is none.
        self.refuse(text_of(LINES[:7]), 7)
        self.assertEqual(read_net(text_of(LINES[:2] + LINES[3:])), Net(3, ((0, 1),), weak=(0,)))
        self.assertEqual(read_net(text_of(LINES[:1] + LINES[2:])), Net(3, ((1, 2),), weak=(0,)))
        self.refuse(text_of(LINES[:1] + LINES[3:]), 1)

    def test_lines_that_are_missing(self):
        for many in range(8):
            self.refuse(text_of(LINES[:many]), many)
            self.refuse(text_of(LINES[:many]) + LINES[many], many)
        self.refuse("", 0)
        self.refuse("hosts 3", 0)
        self.refuse("what", 0)

    def test_a_line_put_in(self):
        for at in range(9):
            for line in ("", "what", "split 4", "hosts 3 4"):
                self.refuse(text_of(LINES[:at] + [line] + LINES[at:]), at)
        for at, line in ((0, "hosts 3"), (2, "hosts 3"), (3, "weak 0"), (4, "endless 4"), (6, "cry still")):
            self.refuse(text_of(LINES[:at] + [line] + LINES[at:]), 2 if at == 2 else at + 1)
        self.refuse(text_of([*LINES, "hold 0"]), 8)
        self.refuse(text_of([*LINES, *LINES]), 8)
        self.refuse(text_of(LINES[:4] + LINES[3:]), 4)
        self.refuse(text_of(LINES[:5] + LINES[4:]), 5)

    def test_lines_moved(self):
        for at in range(7):
            moved = LINES[:at] + [LINES[at + 1], LINES[at]] + LINES[at + 2:]
            # Two ties in another order are of the form, but do not ascend.
            row = 8 if at == 1 else 3 if at == 2 else at
            if at == 2:
                # One tie is enough before the weak ones, and no tie stands behind them.
                self.assertEqual(moved[2:4], ["weak 0", "tie 1 2"])
            self.refuse(text_of(moved), row)
        self.refuse(text_of(LINES[::-1]), 0)

    def test_characters_behind_the_last_line_feed(self):
        for rest in (" ", "x", "hold 0", "\r", "hold 0\r"):
            self.refuse(TEXT + rest, 8)
        self.refuse(TEXT + "\n", 8)
        self.refuse(TEXT + "\n\n", 8)
        self.refuse("\n" + TEXT, 0)
        self.refuse(" " + TEXT, 0)
        self.refuse(TEXT[:-1], 7)

    def test_what_is_not_a_net(self):
        cases = [
            (0, "hosts 1"), (0, "hosts 5"), (0, "hosts 0"), (0, "hosts 9"), (0, "hosts 2"), (1, "tie 1 0"),
            (1, "tie 0 0"), (1, "tie 0 3"), (1, "tie 1 2"), (2, "tie 0 1"), (2, "tie 9 9"), (3, "weak 2"),
            (3, "weak 0 0"), (3, "weak 1 0"), (3, "weak 0 1 2 3"), (3, "weak 9 9 9 9 9 9 9 9 9 9 9 9 9 9"),
            (4, "endless 1"), (4, "endless 6"), (4, "endless 0"), (7, "hold 3"), (7, "hold 9"),
        ]
        for at, line in cases:
            self.refuse(text_of(LINES[:at] + [line] + LINES[at + 1:]), 8)
        six = ["tie 0 1", "tie 0 2", "tie 0 3", "tie 1 2", "tie 1 3", "tie 2 3"]
        self.refuse(text_of(["hosts 4", *six, *LINES[3:]]), 12)
        self.assertEqual(len(read_net(text_of(["hosts 4", *six[:5], *LINES[3:]])).ties), 5)
        self.refuse(text_of(["hosts 4", *six * 9, *LINES[3:]]), 60)
        four = [*LINES[:3], "weak 0 1 2 3", *LINES[4:]]
        self.refuse(text_of(["hosts 4", *six[:5], *four[3:]]), 11)

    def test_what_is_not_a_net_and_a_wrong_line(self):
        self.refuse(text_of(["hosts 9", *LINES[1:7], "hold x"]), 7)
        self.refuse(text_of(["hosts 9", *LINES[1:]]) + "rest", 8)
        self.refuse(text_of(["hosts 9", *LINES[1:7]]), 7)

    def test_rules_and_weak_ties(self):
        for line, name, thing in ((4, "endless", 2), (4, "endless", 5), (5, "split", "poison"), (5, "split", "quiet"),
                                  (6, "cry", "loud"), (7, "hold", 1), (7, "hold", 2)):
            self.assertEqual(read_net(text_of(LINES[:line] + [f"{name} {thing}"] + LINES[line + 1:])),
                             LINE.but(name, thing))
        for line, weak in (("weak", ()), ("weak 1", (1,)), ("weak 0 1", (0, 1))):
            self.assertEqual(read_net(text_of([*LINES[:3], line, *LINES[4:]])), LINE.with_weak(weak))


class WeavingTexts(unittest.TestCase):
    def refuse(self, text, row, net=LINE):
        with self.subTest(text=text), self.assertRaises(BadText) as caught:
            read_weaving(net, text)
        self.assertIs(type(caught.exception), BadText)
        self.assertEqual(caught.exception.row, row)

    def test_no_text(self):
        for text in NO_TEXTS:
            self.refuse(text, 0)

    def test_a_line_changed(self):
        wrong = [
            "", " ", "tell", "tell 0", "tell 0 1 2", "tell  0 1", "tell 0  1", " tell 0 1", "tell 0 1 ", "tell 0 01",
            "tell 0 10", "tell 0 -1", "tell 1 0", "tell 0 2", "tell 3 1", "Tell 0 1", "tell 0 1\r", "tell\t0 1",
            "tell (0, 1)", "tell 0,1", "fall", "fall 1", "fall 0 0", "fall 00", "fall  0", "fall 9", "come", "come 1",
            "sing 0", "hop", "0 1", "0", "0 tell 1", "tell zero one", "tell 0 True", "tie 0 1", "come x", "fall \u0660",
        ]
        for line in wrong:
            for at in range(4):
                self.refuse(text_of(WOVEN[:at] + [line] + WOVEN[at + 1:]), at)
                self.refuse(text_of(WOVEN[:at] + [line]) + "rest", at)
            self.refuse(text_of(WOVEN + [line]), 4)

    def test_what_cannot_be_done_then(self):
        self.refuse("come 0\n", 0)
        self.refuse("fall 0\nfall 0\n", 1)
        self.refuse("fall 0\ntell 0 1\n", 1)
        self.refuse("fall 0\ncome 0\ncome 0\nwhat\n", 2)
        self.refuse(text_of(WOVEN), 2, LINE.with_weak(()))
        self.refuse(text_of(WOVEN), 2, LINE.with_weak((1,)))
        self.refuse(text_of([*WOVEN[:2], "tell 2 1"]), 2, LINE.but("split", "quiet"))
        self.assertEqual(read_weaving(LINE, text_of([*WOVEN[:2], "tell 2 1"]))[-1], ("tell", 2, 1))

    def test_lines_left_out_put_in_and_moved(self):
        self.refuse(text_of(WOVEN[:2] + WOVEN[2:3] + WOVEN[2:]), 3)
        self.refuse(text_of([WOVEN[2], WOVEN[0]]), 1)
        self.assertEqual(read_weaving(LINE, text_of(WOVEN[1:])), RING_WEAVING[1:])
        self.assertEqual(read_weaving(LINE, text_of([WOVEN[1], WOVEN[0], *WOVEN[2:]])),
                         [RING_WEAVING[1], RING_WEAVING[0], *RING_WEAVING[2:]])

    def test_characters_behind_the_last_line_feed(self):
        for many in range(5):
            for rest in ("tell 0 1", " ", "x", "\r"):
                self.refuse(text_of(WOVEN[:many]) + rest, many)
            self.refuse(text_of(WOVEN[:many]) + "\n", many)
        self.refuse("fall 0", 0)
        self.refuse("\n", 0)


class WrongArguments(unittest.TestCase):
    def test_no_net(self):
        for net in NO_NETS:
            for call in (net_text, lambda it: weaving_text(it, []), lambda it: weaving_text(it, None),
                         lambda it: read_weaving(it, ""), lambda it: read_weaving(it, None),
                         lambda it: read_weaving(it, "what")):
                with self.subTest(net=net), self.assertRaises(BadNet) as caught:
                    call(net)
                self.assertIsNone(caught.exception.part)

    def test_no_weaving(self):
        for history in (None, "", "tell 0 1\n", b"", {}, 0, True, set(), iter([]), object(), LINE):
            with self.subTest(history=history), self.assertRaises(BadWeaving) as caught:
                weaving_text(LINE, history)
            self.assertIsNone(caught.exception.index)
        for deed in [*NO_DEEDS, None, "tell 0 1", ["tell", 0, 1]]:
            with self.subTest(deed=deed), self.assertRaises(BadWeaving) as caught:
                weaving_text(LINE, [("fall", 0), ("come", 0), deed, None])
            self.assertEqual(caught.exception.index, 2)

    def test_arguments_are_left_as_they_are(self):
        history = list(RING_WEAVING)
        weaving_text(LINE, history)
        self.assertEqual(history, RING_WEAVING)
        read_weaving(LINE, text_of(WOVEN)).clear()
        self.assertEqual(read_weaving(LINE, text_of(WOVEN)), RING_WEAVING)
        self.assertIsNot(read_net(TEXT), read_net(TEXT))
        self.assertEqual(LINE, Net(3, ((0, 1), (1, 2)), weak=(0,)))
