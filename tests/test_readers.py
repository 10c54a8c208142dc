"""Texts of nets and settings, and their wrong lines [1b]."""

import random
import re
import unittest

from flippedpoints.errors import BadText, InvalidNet, InvalidSetting
from flippedpoints.nets import Net, is_setting
from flippedpoints.readers import net_of, net_text, setting_of, setting_text
from tests.support import INTEGERS, LISTS, PAIR, STRANGE, Call, CallTests
from tests.support import random_nets, wrong_nets, wrong_settings

NETS = (InvalidNet, wrong_nets())
STRINGLESS = [value for value in STRANGE + INTEGERS + LISTS + [PAIR] if not isinstance(value, str)]


def plain_wrong_line(text):
    """The wrong line of a text of a net, None if it is right; read by patterns."""
    lines = re.findall(r"[^\n]*\n|[^\n]+", text)
    bare = [line.rstrip("\n") for line in lines]
    ends, tracks = 0, 0
    for at, line in enumerate(bare):
        found = re.fullmatch("ends ([0-6])", line) if at == 0 else re.fullmatch(
            "point((?: (?:[0-9]|1[0-9]|2[0-3]|-[1-6])){1,6})", line)
        if not found or at > 24:
            return at
        if at == 0:
            ends = int(found[1])
        else:
            targets = [int(word) for word in found[1].split()]
            tracks += len(targets)
            if min(targets) < -ends or tracks > 60:
                return at
    if len(lines) < 2:
        return len(lines)
    if not text.endswith("\n"):
        return len(lines) - 1
    for at, line in enumerate(bare[1:]):
        if max(int(word) for word in line.split()[1:]) > len(lines) - 2:
            return at + 1
    return None


class ReaderCalls(CallTests, unittest.TestCase):

    def calls(self):
        return [
            Call(net_text, {"net": PAIR}, {"net": NETS}),
            Call(setting_text, {"net": PAIR, "setting": [1, 0]}, {
                "net": NETS, "setting": (InvalidSetting, wrong_settings(PAIR, [1, 0]))}),
            Call(net_of, {"text": "ends 1\npoint 0 1\npoint 0 -1\n"}, {"text": (BadText, STRINGLESS)}),
            Call(setting_of, {"net": PAIR, "text": "next 1 0\n"}, {"net": NETS, "text": (BadText, STRINGLESS)}),
        ]


class NetTextTests(unittest.TestCase):

    def assert_wrong(self, text, line):
        with self.subTest(text=text), self.assertRaises(BadText) as caught:
            net_of(text)
        self.assertEqual(caught.exception.line, line)

    def test_written(self):
        self.assertEqual(net_text(Net(0, [[0]])), "ends 0\npoint 0\n")
        wide = Net(6, [[-1, -2, -3, -4, -5, -6]] + [[23, 10, 9, 0]] + [[at] for at in range(22)])
        self.assertEqual(net_text(wide).split("\n")[:4], ["ends 6", "point -1 -2 -3 -4 -5 -6", "point 23 10 9 0", "point 0"])
        self.assertEqual(len(net_text(wide).split("\n")), 26)
        self.assertEqual(net_of(net_text(wide)), wide)

    def test_there_and_back(self):
        full = Net(6, [[-1, at, at] for at in range(12)] + [[-6, 23] for _ in range(12)])
        for net in [net for net, _ in random_nets(11, 100, points=24, exits=2, ends=6)] + [full]:
            back = net_of(net_text(net))
            self.assertEqual(back, net)
            self.assertEqual(net_text(back), net_text(net))

    def test_no_string(self):
        for value in STRINGLESS:
            with self.assertRaises(BadText) as caught:
                net_of(value)
            self.assertIsNone(caught.exception.line)

    def test_lines_that_cannot_stand(self):
        for first in ("", " ", "ends", "ends ", "ends 7", "ends 10", "ends 00", "ends 01", "ends -1", "ends -0", "ends +1",
                      "ends 1 ", " ends 1", "ends  1", "Ends 1", "end 1", "ends 1 1", "ends one", "ends 1.", "point 0",
                      "next 0", "ends " + "1" * 5000, "ends " + "0" * 5000, "ends1", "ends 0x1"):
            self.assert_wrong(first + "\npoint 0\n", 0)
            self.assert_wrong(first + "\nwrong\n", 0)
            if first:
                self.assert_wrong(first, 0)
        for row in ("", " ", "point", "point ", "point 0 ", " point 0", "point  0", "point 00", "point 01", "point -0",
                    "point -3", "point -01", "point --1", "point - 1", "point -", "point +0", "point 24", "point 100",
                    "point 0 0 0 0 0 0 0", "Point 0", "points 0", "point 0,0", "point 0 x", "ends 2", "next 0", "point0",
                    "point " + "1" * 5000, "point -" + "1" * 5000, "point 0 0 0 24", "point " + "0 " * 100 + "0"):
            self.assert_wrong(f"ends 2\n{row}\npoint 0\n", 1)
            self.assert_wrong(f"ends 2\npoint 1 -2\n{row}\n", 2)
            self.assert_wrong(f"ends 2\npoint 1 -2\n{row}\npoint x", 2)
            if row:
                self.assert_wrong(f"ends 2\npoint 1 -2\n{row}", 2)
        self.assert_wrong("\n", 0)
        self.assert_wrong("ends 1\npoint -1\n\n", 2)
        for ends in range(6):
            self.assert_wrong(f"ends {ends}\npoint 0 -{ends + 1}\n", 1)
            self.assertEqual(net_of(f"ends {ends + 1}\npoint 0 -{ends + 1}\n"), Net(ends + 1, [[0, -1 - ends]]))

    def test_too_many(self):
        rows = "point 0\n" * 24
        self.assertEqual(net_of("ends 0\n" + rows), Net(0, [[0]] * 24))
        self.assert_wrong("ends 0\n" + rows + "point 0\n", 25)
        self.assert_wrong("ends 0\n" + rows + "point 0\nwrong\n", 25)
        self.assert_wrong("ends 0\n" + rows + "point 0", 25)
        sixes = "point 0 0 0 0 0 0\n" * 10
        self.assertEqual(net_of("ends 0\n" + sixes), Net(0, [[0] * 6] * 10))
        self.assert_wrong("ends 0\n" + sixes + "point 0\n", 11)
        self.assert_wrong("ends 0\n" + sixes + "point 0", 11)
        self.assert_wrong("ends 0\n" + sixes + "point 0\npoint 0\nwrong\n", 11)
        fives = "point 0 0 0 0 0\n" * 11
        self.assertEqual(net_of("ends 0\n" + fives + fives[:16]), Net(0, [[0] * 5] * 12))
        self.assert_wrong("ends 0\n" + fives + "point 0 0 0 0 0 0\n", 12)

    def test_nothing_there(self):
        self.assert_wrong("", 0)
        self.assert_wrong("ends 3\n", 1)
        self.assert_wrong("ends 3", 1)

    def test_no_line_feed(self):
        self.assert_wrong("ends 1\npoint 0 -1", 1)
        self.assert_wrong("ends 1\npoint 0 -1\npoint 0", 2)

    def test_points_that_are_not_there(self):
        self.assert_wrong("ends 1\npoint 1 -1\n", 1)
        self.assert_wrong("ends 1\npoint 23\n", 1)
        self.assert_wrong("ends 1\npoint 1\npoint 0 2\npoint 3\n", 3)
        self.assert_wrong("ends 1\npoint 1\npoint 0 2\n", 2)
        self.assertEqual(net_of("ends 1\npoint 2\npoint 0\npoint 1\n"), Net(1, [[2], [0], [1]]))

    def test_of_two_the_first_case_is_told(self):
        # (i) ahead of (ii), (iii) and (iv), wherever they stand.
        self.assert_wrong("ends 7", 0)
        self.assert_wrong("ends 1\npoint 9\npoint x\n", 2)
        self.assert_wrong("ends 1\npoint 9\npoint x", 2)
        self.assert_wrong("ends 1\npoint 0\npoint -2\npoint x", 2)
        # (ii) ahead of (iii).
        self.assert_wrong("ends 6", 1)
        # (iii) ahead of (iv).
        self.assert_wrong("ends 1\npoint 9\npoint 0", 2)
        self.assert_wrong("ends 1\npoint 9\npoint 8\npoint 0 -1", 3)

    def test_changed_texts(self):
        chance = random.Random(12)
        signs = "ends point 0123456789-\n \n"
        right = 0
        for net, _ in random_nets(12, 60, points=6, exits=4, ends=6):
            text = net_text(net)
            for _ in range(60):
                changed = text
                for _ in range(chance.randint(1, 2)):
                    at, width = chance.randint(0, len(changed)), chance.choice([0, 1, 1, 1, 6])
                    changed = changed[:at] + chance.choice([*signs, "", "point 3\n"]) + changed[at + width:]
                line = plain_wrong_line(changed)
                if line is None:
                    right += 1
                    self.assertEqual(net_text(net_of(changed)), changed)
                else:
                    self.assert_wrong(changed, line)
        self.assertGreater(right, 100)


class SettingTextTests(unittest.TestCase):

    def assert_wrong(self, net, text, line):
        with self.subTest(text=text), self.assertRaises(BadText) as caught:
            setting_of(net, text)
        self.assertEqual(caught.exception.line, line)

    def test_there_and_back(self):
        self.assertEqual(setting_text(Net(0, [[0] * 6]), [5]), "next 5\n")
        for net, setting in random_nets(13, 60, points=10, exits=6, ends=6):
            text = setting_text(net, tuple(setting))
            self.assertEqual(text, "next " + " ".join(map(str, setting)) + "\n")
            self.assertEqual(setting_of(net, text), setting)
            self.assertIsInstance(setting_of(net, text), list)
            self.assertTrue(is_setting(net, setting_of(net, text)))

    def test_no_string(self):
        for value in STRINGLESS:
            with self.assertRaises(BadText) as caught:
                setting_of(PAIR, value)
            self.assertIsNone(caught.exception.line)

    def test_wrong_first_lines(self):
        for line in ("", " ", "next", "next 0", "next 0 0 0", "next 0 2", "next 2 0", "next 00 0", "next 0 01", "next 0 -1",
                     "next -0 0", "next 0 0 ", " next 0 0", "next  0 0", "Next 0 0", "next 0,0", "next 0 x", "last 0 0",
                     "next 0 " + "1" * 5000, "next" + " 0" * 300, "point 0 0", "ends 1"):
            self.assert_wrong(PAIR, line + "\n", 0)
            self.assert_wrong(PAIR, line, 0)
            self.assert_wrong(PAIR, line + "\nnext 0 0\n", 0)

    def test_no_line_feed_and_more_lines(self):
        self.assert_wrong(PAIR, "next 0 0", 0)
        for more in ("\n", "x", " ", "next 0 0\n", "next 0 0", "\n\n", "wrong\nwrong\n"):
            self.assert_wrong(PAIR, "next 0 0\n" + more, 1)

    def test_each_point_has_its_own_exits(self):
        net = Net(0, [[0], [0, 0, 0], [0, 0]])
        self.assertEqual(setting_of(net, "next 0 2 1\n"), [0, 2, 1])
        for text in ("next 1 2 1\n", "next 0 3 1\n", "next 0 2 2\n"):
            self.assert_wrong(net, text, 0)


if __name__ == "__main__":
    unittest.main()
