"""Names and commands by their words alone [9b1], [9b4]."""

import re
import unittest

from flippedpoints.commands import is_command, is_deed, is_name
from flippedpoints.readers import net_text
from tests.support import HUGE, INTEGERS, LISTS, PAIR, STRANGE, Call, CallTests
from tests.support import big_net, random_nets

LINES = "ends 1; point 0 1; point 0 -1"
# For each command parts that are right, each with its kind.
DEEDS = {
    "net": [("name", "p"), ("lines", LINES)],
    "set": [("name", "p"), ("list", "0,1")],
    "send": [("name", "p"), ("list", "1,0")],
    "lay": [("name", "p"), ("count", "0"), ("target", "-1")],
    "take": [("name", "p"), ("count", "0"), ("count", "1")],
    "swap": [("name", "p"), ("count", "0"), ("count", "1"), ("count", "0")],
    "copy": [("name", "q"), ("name", "p")],
    "drop": [("name", "p")],
    "forget": [("name", "k")],
    "claim k arrives": [("name", "p"), ("count", "0"), ("count", "0")],
    "claim k misses": [("name", "p"), ("count", "0"), ("count", "0")],
    "claim k ends": [("name", "p"), ("count", "0")],
    "claim k never": [("name", "p"), ("count", "0")],
    "claim k least": [("name", "p"), ("list", "1,0"), ("list", "4,2")],
    "claim k more": [("name", "p"), ("list", "1,0"), ("list", "4,2")],
    "claim k alike": [("name", "p"), ("list", "0"), ("name", "q"), ("list", "0")],
    "claim k parted": [("name", "p"), ("list", "0"), ("name", "q"), ("list", "0")],
}
OTHERS = {
    "undo": [], "redo": [], "states": [], "names": [],
    "state": [("name", "k")],
    "claimed": [("name", "k")],
    "show": [("name", "p")],
    "setting": [("name", "p")],
    "come": [("name", "p")],
    "same": [("name", "p"), ("name", "q")],
    "lost": [("name", "p")],
    "flow": [("name", "p"), ("list", "1,0")],
    "long": [("name", "p"), ("count", "0")],
    "time": [("name", "p"), ("count", "0"), ("count", "3"), ("count", "1")],
    "share": [("name", "p"), ("count", "0"), ("count", "0")],
    "trees": [("name", "p")],
    "period": [("name", "p"), ("count", "1")],
}
ROOMY = "9" * 20
RIGHT = {
    "name": ["a", "z", "p0", "abcdefgh", "z9999999", "net", "undo", "claim", "ends", "k"],
    "count": ["0", "1", "10", "99", ROOMY, "5", "24", "100"],
    "target": ["0", "1", "-1", "-10", ROOMY, "-" + ROOMY, "23", "-6", "-7"],
    "list": ["0", "1,0", "4,2", ROOMY, ",".join([ROOMY] * 24), "0,0,0", "7,10,0", "1"],
    "lines": [LINES, "ends 0; point 0", "ends 6; point -6 -1 0 0 0 0", "ends 1; point 0", "ends 1; " + "; ".join(["point -1"] * 24)],
}
COUNTS = ["", "-1", "-0", "+1", "01", "00", "1 ", " 1", "a", "1a", "0x1", "1.0", "1,0", "1_0", "1" + ROOMY, "0" + ROOMY, "1" * 21, "-", "1\n", "1;"]
WRONG = {
    "name": ["", "A", "aB", "0", "0a", "abcdefghi", "z99999999", "a_b", "a-b", "-", "a.", "a,b", "a\n", "~", "a;", "[a]"],
    "count": COUNTS,
    "target": [text for text in COUNTS if text != "-1"] + ["--1", "-01", "-1" + ROOMY, "-a", "- 1", "1-", "-1-", "-1,0", "-00"],
    "list": ["", ",", "1,", ",1", "1,,0", "1, 0", "01", "0,01", "-1", "1,-1", "a", "1,a", "1" + ROOMY, "0,1" + ROOMY, ",".join(["0"] * 25), "[1,0]",
             "1;0", "1.0", "0\n", "0,\n0"],
    "lines": ["", "ends 1", "ends 1;", "ends 1; ", "ends 1; point", "ends 1; point 1", "ends 1; point -2", "ends 7; point 0", "ends 1; point 0 ",
              "ends 1;point 0", "ends 1;  point 0", " ends 1; point 0", "ends 1; point 0;", "ends 1; point 0; ", "ends 1\npoint 0", "ends 1; point 0\n",
              "point 0", "point 0; ends 1", "ends 01; point 0", "ends 1; point 00", "ends 1; point -0", "ends 1; point 0 0 0 0 0 0 0", "Ends 1; point 0",
              "ends 1; point 0 1", "ends 1; point 0,1", "ends 1; points 0", "ends 1; " + "; ".join(["point -1"] * 25), "next 0", "1; point 0",
              "ends 1; " + "; ".join(["point -1 -1 -1"] * 21)],
}


def right_name(value):
    return isinstance(value, str) and re.fullmatch("[a-z][a-z0-9]{0,7}", value) is not None


def made(word, parts):
    return " ".join([word] + parts)


class CommandCalls(CallTests, unittest.TestCase):

    def calls(self):
        return [
            Call(is_name, {"value": "p"}, asked=True),
            Call(is_command, {"value": "send p 1,0"}, asked=True),
            Call(is_deed, {"value": "send p 1,0"}, asked=True),
        ]

    def test_values_that_are_no_strings(self):
        for value in STRANGE + INTEGERS + LISTS + [PAIR, b"undo", ["undo"], ("undo",), {"undo": 0}, [b"p"], HUGE]:
            if not isinstance(value, str):
                self.assertEqual([is_name(value), is_command(value), is_deed(value)], [False, False, False])


class NameTests(unittest.TestCase):

    def test_names(self):
        for name in RIGHT["name"]:
            self.assertIs(is_name(name), True)
        for name in WRONG["name"] + ["p q", " p", "p ", "0p", "9", "abcdefgh9"]:
            self.assertIs(is_name(name), False)
        for code in range(32, 127):
            for text in (chr(code), "p" + chr(code), chr(code) + "p", "a0" + chr(code) + "z"):
                self.assertIs(is_name(text), right_name(text))
        self.assertEqual([is_name("a" * many) for many in (0, 1, 8, 9)], [False, True, True, False])


class CommandTests(unittest.TestCase):

    def assert_command(self, text, right, deed):
        with self.subTest(text=text):
            self.assertEqual([is_command(text), is_deed(text)], [right, right and deed])

    def all_commands(self):
        for deed, table in ((True, DEEDS), (False, OTHERS)):
            for word, parts in table.items():
                yield deed, word, [kind for kind, _ in parts], [text for _, text in parts]

    def test_right_and_wrong_parts(self):
        for deed, word, kinds, texts in self.all_commands():
            self.assert_command(made(word, texts), True, deed)
            for at, kind in enumerate(kinds):
                for text in RIGHT[kind]:
                    self.assert_command(made(word, texts[:at] + [text] + texts[at + 1:]), True, deed)
                for text in WRONG[kind]:
                    self.assert_command(made(word, texts[:at] + [text] + texts[at + 1:]), False, deed)

    def test_labels_of_claims(self):
        for name, right in [(name, True) for name in RIGHT["name"]] + [(name, False) for name in WRONG["name"]]:
            for _, word, _, texts in self.all_commands():
                if word.startswith("claim "):
                    self.assert_command(made(word.replace(" k ", f" {name} "), texts), right, True)

    def test_a_part_more_and_a_part_less(self):
        for deed, word, kinds, texts in self.all_commands():
            for at in range(len(texts)):
                self.assert_command(made(word, texts[:at] + texts[at + 1:]), False, deed)
            for part in ("0", "p", "0,0", "", " "):
                # A number more makes another last line of a net.
                if (word, part) != ("net", "0"):
                    self.assert_command(made(word, texts + [part]), False, deed)
            for text in (" " + made(word, texts), made(word, texts) + "\n", made(word, texts) + ";", made(word, texts).replace(" ", "  ", 1) + " ",
                         made(word, texts).upper(), made(word, texts)[1:], "do " + made(word, texts)):
                self.assert_command(text, False, deed)
            if texts:
                self.assert_command(made(word, texts).replace(" ", "  ", 1), False, deed)
                self.assert_command(made(word, texts).replace(" ", "\n", 1), False, deed)

    def test_words(self):
        for word in ("", " ", "claim", "claim k", "claim k ends", "claim k lost p 0", "claim k ends p 0 0", "claim k arrives p 0", "claim ends p 0",
                     "claim k k ends p 0", "claim p ends", "undo p", "ends p 0", "arrives p 0 0", "forget", "deed", "name", "lines", "net", "net p", "net p ",
                     "Undo", "undo undo", "undo;redo", "undo; redo", "labels", "fits k", "attach k [1]", "state", "drop", "len"):
            self.assertEqual([is_command(word), is_deed(word)], [False, False])
        for _, word, _, texts in self.all_commands():
            for odd in (word + "s", word[:-1], word + "x"):
                if odd not in ("state", "states"):
                    self.assertIs(is_command(made(odd, texts)), False)

    def test_nets(self):
        for net, _ in random_nets(951, 60, points=5, exits=6, ends=6):
            self.assert_command("net p " + net_text(net)[:-1].replace("\n", "; "), True, True)
        net, _ = big_net(0, ends=6)
        self.assert_command("net p " + net_text(net)[:-1].replace("\n", "; "), True, True)
        text = net_text(net)[:-1].replace("\n", "; ")
        for at in range(len(text)):
            # A sign left out tells another net, or none.
            told = is_command("net p " + text[:at] + text[at + 1:])
            lines = (text[:at] + text[at + 1:]).split("; ")
            right = all(re.fullmatch(r"point( (0|-?[1-9][0-9]*)){1,6}", line) for line in lines[1:]) and lines[0] == "ends 6" and len(lines) == 25
            right = right and all(-6 <= int(word) <= 23 for line in lines[1:] for word in line.split(" ")[1:])
            self.assertEqual(told, right)


if __name__ == "__main__":
    unittest.main()
