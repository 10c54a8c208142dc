"""Written things, sorts, unread positions [9a1] to [9a3]."""

import random
import re
import unittest

from flippedpoints.errors import InvalidSort, InvalidThing, UnreadText
from flippedpoints.nets import Net
from flippedpoints.pieces import Piece
from flippedpoints.texts import is_of_sort, read, written
from tests.support import HUGE, INTEGERS, LISTS, PAIR, STRANGE, Call, CallTests, kinds_of
from tests.support import big_net, random_nets, wrong_numbers

TWO = Net(1, [[0, 1], [0, -1]])
PIECE = Piece(Net(2, [[1, -1], [0, 1, -2]]), [0, 1], [1, 0])
SORTS = ["net", "piece", "visits", "state", "never"]
WRONG_SORTS = STRANGE + INTEGERS + LISTS + [PAIR, "nets", "Net", "net ", " net", "ne", "visit", "arrives", ("net",), ["net"], b"net"]
MOST = HUGE - 1
# Things of each sort, with the text that is right by [9a1], put together by hand.
THINGS = {
    "net": [(TWO, "(1 [[0 1] [0 -1]])"), (Net(0, [[0]]), "(0 [[0]])"), (Net(6, [[-6, -1, 0, 0, 0, 0]]), "(6 [[-6 -1 0 0 0 0]])"),
            (Net(1, [(23,)] * 23 + [(-1, 10)]), "(1 [" + "[23] " * 23 + "[-1 10]])")],
    "piece": [(PIECE, "((2 [[1 -1] [0 1 -2]]) [0 1] [1 0])"), (Piece(Net(1, [[-1]]), [0], [0]), "((1 [[-1]]) [0] [0])"),
              (Piece(Net(1, [[-1]] * 5), (0,) * 5, (4, 1, 0, 2)), "((1 [[-1] [-1] [-1] [-1] [-1]]) [0 0 0 0 0] [4 1 0 2])")],
    "visits": [([0], "[0]"), ([4, 2], "[4 2]"), ([MOST] * 24, "[" + " ".join(["9" * 30] * 24) + "]"), ([10 ** 29, 0], "[1" + "0" * 29 + " 0]")],
    "state": [((-1, (0, 1)), "(-1 (0 1))"), ((-6, (5,)), "(-6 (5))"), ((23, (0,) * 24), "(23 (" + " ".join("0" * 24) + "))")],
    "never": [(([0], [1, 0]), "([0] [1 0])"), (([], [0]), "([] [0])"), (([23] * 24, [MOST] * 24), "([" + " ".join(["23"] * 24) + "] ["
               + " ".join(["9" * 30] * 24) + "])"), (([3, 1, 3], [7]), "([3 1 3] [7])")],
}
# What a well-made text of whatever thing looks like, taken apart by patterns, one pair of brackets after another.
PART = r"(?:0|-?[1-9][0-9]*|[a-z]+|@)"


def is_written(text):
    """Whether the text is a written value of INTEGERS, words, lists and tuples."""
    if "@" in text:
        return False
    before = None
    while before != text:
        before = text
        text = re.sub(rf"\[(?:{PART}(?: {PART})*)?\]|\((?:{PART}(?: {PART})*)?\)", "@", text)
    return re.fullmatch(PART, text) is not None


def can_go_on(text):
    """Whether some written value begins with the text."""
    if text == "":
        return True
    tails = ["", "1", "a", "]", ")"]
    closers = []
    for sign in text:
        if sign in "[(":
            closers.append("]" if sign == "[" else ")")
        elif sign in "])":
            if not closers or closers.pop() != sign:
                return False
    rest = "".join(reversed(closers))
    return any(is_written(text + tail + rest) for tail in ("", "1", "a"))


def right_position(text):
    """The unread position by [9a3]; -1 for a written value."""
    for at in range(len(text)):
        if not can_go_on(text[:at + 1]):
            return at
    return -1 if is_written(text) else len(text)


class TextCalls(CallTests, unittest.TestCase):

    def calls(self):
        sorts = (InvalidSort, WRONG_SORTS)
        return [
            Call(is_of_sort, {"sort": "visits", "value": [4, 2]}, {"sort": sorts}, asked=True),
            Call(is_of_sort, {"sort": "state", "value": (0, (0, 1))}, {"sort": sorts}, asked=True),
            Call(is_of_sort, {"sort": "never", "value": ([0], [0, 1])}, {"sort": sorts}, asked=True),
            Call(is_of_sort, {"sort": "net", "value": TWO}, {"sort": sorts}, asked=True),
            Call(is_of_sort, {"sort": "piece", "value": PIECE}, {"sort": sorts}, asked=True),
            Call(written, {"sort": "visits", "value": [4, 2]}, {"sort": sorts, "value": (InvalidThing, wrong_things("visits"))}),
            Call(written, {"sort": "net", "value": TWO}, {"sort": sorts, "value": (InvalidThing, wrong_things("net"))}),
            Call(written, {"sort": "piece", "value": PIECE}, {"sort": sorts, "value": (InvalidThing, wrong_things("piece"))}),
            Call(read, {"sort": "visits", "text": "[4 2]"}, {"sort": sorts}),
            Call(read, {"sort": "never", "text": "([0] [4 2])"}, {"sort": sorts}),
            Call(read, {"sort": "piece", "text": "((1 [[-1]]) [0] [0])"}, {"sort": sorts}),
        ]

    def test_sorts_ahead_of_all_else(self):
        for sort in ("nets", None, ["net"], True):
            for function, value in ((is_of_sort, TWO), (written, -1), (read, 5), (read, "(")):
                with self.assertRaises(InvalidSort) as caught:
                    function(sort, value)
                self.assertIs(caught.exception.value, sort)

    def test_states_and_nevers_that_are_none(self):
        for sort in ("state", "never"):
            for value in wrong_things(sort):
                with self.subTest(sort, value=value):
                    self.assertIs(is_of_sort(sort, value), False)
                    with self.assertRaises(InvalidThing) as caught:
                        written(sort, value)
                    self.assertIs(caught.exception.value, value)

    def test_texts_that_are_no_strings(self):
        for value in [None, True, 5, b"[4 2]", ["[4 2]"], ("[4 2]",), [4, 2], {}, TWO, PIECE, (1, [[0]]), len]:
            for sort in SORTS:
                with self.assertRaises(UnreadText) as caught:
                    read(sort, value)
                self.assertIsNone(caught.exception.position)


def wrong_things(sort):
    """Values that aren't of the sort: strange ones, those of all other sorts, and some that are nearly of it."""
    others = [thing for other, things in THINGS.items() for thing, _ in things if other != sort]
    text = [text for _, text in THINGS[sort]]
    strange = [value for value in STRANGE + [None, PAIR.exits(), (1, PAIR.exits())] if not (sort == "visits" and value in ([], ()))]
    if sort == "net":
        return strange + text + INTEGERS + LISTS + others + [Net, [TWO], (TWO,)]
    if sort == "piece":
        return strange + text + INTEGERS + LISTS + others + [Piece, PAIR, (TWO, [0, 0], [0])]
    if sort == "visits":
        right = [4, 2]
        rows = [row for row in wrong_numbers(right) if not (isinstance(row, (list, tuple)) and row in ([4], (4,), [4, 2, 0], (4, 2, 0)))]
        return rows + text + [[], (), [0] * 25, (0,) * 25, [0] * 24 + [True], TWO, PIECE, [[4, 2]], ((4, 2),)] + others
    if sort == "state":
        states = [(where, (0, 0)) for where in (-7, 24, True, False, None, "0", [0], (0,), HUGE, -HUGE, PAIR)]
        states += [(0, setting) for setting in [[], (), [0], [0, 0], (6,), (0, 6), (-1, 0), (True,), (0, False), (None,), ("0",), ((0,),),
                                                (0,) * 25, 0, None, {}, "0", PAIR, {0: 0}]]
        return strange + text + states + [[0, (0, 0)], (0,), (0, (0,), 0), ((0,), 0), {0: (0,)}, TWO] + INTEGERS + LISTS + others
    nevers = [(lot, [1, 0]) for lot in ([24], [-1], [True], [None], ["0"], [[0]], [0] * 25, 0, None, {}, {0}, "0", PAIR, [HUGE], (24,))]
    nevers += [([0], visits) for visits in ([], (), [0] * 25, [-1], [HUGE], [True], [0, False], [None], ["0"], [[0]], 0, None, {}, "0", PAIR)]
    strange = [value for value in strange if value != ((0,), (0,))]
    return strange + text + nevers + [[[0], [1, 0]], ([0],), ([0], [1], [0]), TWO] + INTEGERS + LISTS + others


class ThingTests(unittest.TestCase):

    def test_written_and_read(self):
        for sort, things in THINGS.items():
            for thing, text in things:
                self.assertIs(is_of_sort(sort, thing), True)
                self.assertEqual(written(sort, thing), text)
                told = read(sort, text)
                self.assertEqual([told, kinds_of(told)], [thing, kinds_of(thing)])
                # Of another sort it is a written thing, but not one of that.
                for other in SORTS:
                    if other != sort:
                        self.assertIs(is_of_sort(other, thing), False)
                        self.assert_unread(other, text, None)

    def assert_unread(self, sort, text, position):
        with self.subTest(sort, text=text), self.assertRaises(UnreadText) as caught:
            read(sort, text)
        self.assertEqual(caught.exception.position, position)

    def test_lists_that_are_passed_as_tuples(self):
        self.assertEqual([written("visits", (4, 2)), written("never", ((0,), (1, 0))), written("never", ((), [3]))],
                         ["[4 2]", "([0] [1 0])", "([] [3])"])
        self.assertEqual(written("piece", Piece(((TWO)), (0, 0), (1,))), "((1 [[0 1] [0 -1]]) [0 0] [1])")
        for sort, value in (("visits", (4, 2)), ("never", ((0,), (1,)))):
            self.assertIs(is_of_sort(sort, value), True)

    def test_brackets_of_another_kind(self):
        for sort, texts in {
            "net": ["[1 [[0 1] [0 -1]]]", "(1 ([0 1] [0 -1]))", "(1 [(0 1) [0 -1]])", "(1 [[0 1] (0 -1)])"],
            "piece": ["[(1 [[-1]]) [0] [0]]", "((1 [[-1]]) (0) [0])", "((1 [[-1]]) [0] (0))", "([1 [[-1]]] [0] [0])"],
            "visits": ["(4 2)", "(4)", "()", "[]", "4", "abc"],
            "state": ["[-1 (0 1)]", "(-1 [0 1])", "(-1 0)", "(-1 ())"],
            "never": ["[[0] [1]]", "((0) [1])", "([0] (1))", "([0] 1)"],
        }.items():
            for text in texts:
                self.assert_unread(sort, text, None)

    def test_written_values_that_are_no_things(self):
        for sort, texts in {
            "net": ["(7 [[0]])", "(1 [])", "(1 [[]])", "(1 [[1]])", "(1 [[-2]])", "(0 [[-1]])", "(1 [[0 0 0 0 0 0 0]])", "(-1 [[0]])", "(1)",
                    "(1 [[0]] 1)", "(a [[0]])", "(1 [[a]])", "(1 [" + " ".join(["[0]"] * 25) + "])", "(1 [" + " ".join(["[0 0 0]"] * 21) + "])"],
            "piece": ["((0 [[0]]) [0] [0])", "((1 [[0 1] [1]]) [0 0] [0])", "((1 [[-1]]) [1] [0])", "((1 [[-1]]) [0] [])", "((1 [[-1]]) [0] [1])",
                      "((1 [[-1]]) [0] [0 0])", "((1 [[-1]]) [0])", "(1 [0] [0])", "(piece [0] [0])", "((1 [[-1]]) [0] [0] [0])"],
            "visits": ["[-1]", "[a]", "[[0]]", "[1" + "0" * 30 + "]", "[" + "9" * 5000 + "]", "[" + " ".join(["0"] * 25) + "]", "[0 one]"],
            "state": ["(24 (0))", "(-7 (0))", "(0 (6))", "(0 (-1))", "(a (0))", "(0 (a))", "(0)", "(0 (0) 0)", "(" + "1" * 6000 + " (0))"],
            "never": ["([24] [0])", "([-1] [0])", "([0] [])", "([0] [-1])", "([0])", "([0] [0] [0])", "([a] [0])", "(lot [0])"],
        }.items():
            for text in texts:
                self.assert_unread(sort, text, None)
        for text in ("0", "a", "-5", "zz", "[]", "()", "(1)", "[[[[]]]]", "9" * 7999, "[" * 4000 + "]" * 4000, "z" * 8000, "-1" + "0" * 7000):
            for sort in SORTS:
                self.assert_unread(sort, text, None)

    def test_unread_signs(self):
        for text, position in {
            "": 0, "-": 1, "[": 1, "(": 1, "[-": 2, "[1 ": 3, "[1 -": 4, "([0] [1 0]": 10, "(1 [[0 1] [0 -1]]": 17,
            "-0": 1, "-a": 1, "--1": 1, "01": 1, "00": 1, "0a": 1, "1a": 1, "a1": 1, "aB": 1, "A": 0, " ": 0, "\n": 0, "1 ": 1, "1 2": 1,
            "]": 0, ")": 0, "[)": 1, "(]": 1, "[1)": 2, "(1]": 2, "[1 ]": 3, "[ 1]": 1, "[1  2]": 3, "[1,2]": 2, "[1 2] ": 5, "[1 2]]": 5,
            "[1 2][": 5, "[4 02]": 4, "[4 -02]": 4, "[4 2]\n": 5, "[+4]": 1, "[4.0]": 2, "[a-1]": 2, "[[][]]": 3, "(())()": 4, "[1(2)]": 2,
            "[10 010]": 5, "~": 0, "{}": 0, "[_]": 1, "[abc def": 8, "[abc def  ": 9,
        }.items():
            for sort in SORTS:
                self.assert_unread(sort, text, position)
            self.assertEqual(right_position(text), position)

    def test_each_sign_there_is(self):
        for code in list(range(32, 127)) + [10]:
            sign = chr(code)
            for text in (sign, "a" + sign, sign + "a", "1" + sign, sign + "1", "0" + sign, "-" + sign, "[" + sign + "]", "(" + sign + ")",
                         "[0" + sign + "0]", "[a " + sign + "]", "[a" + sign + "a]", "[]" + sign):
                self.assert_right("visits", text)

    def test_a_sign_turned_left_out_or_put_in(self):
        signs = "[]() -019az~\nA"
        for sort, things in THINGS.items():
            for thing, text in things:
                if len(text) > 60:
                    continue
                texts = [text[:at] + text[at + 1:] for at in range(len(text))] + [text[:at] for at in range(len(text))]
                texts += [text[:at] + sign + text[at + 1:] for at in range(len(text)) for sign in signs]
                texts += [text[:at] + sign + text[at:] for at in range(len(text) + 1) for sign in signs]
                for one in texts:
                    self.assert_right(sort, one)

    def assert_right(self, sort, text):
        position = right_position(text)
        try:
            thing = read(sort, text)
        except UnreadText as wrong:
            self.assertEqual(wrong.position, None if position == -1 else position, (sort, text))
        else:
            self.assertEqual([position, is_of_sort(sort, thing), written(sort, thing)], [-1, True, text])

    def test_random_texts(self):
        chance = random.Random(911)
        found = []
        for _ in range(4000):
            text = "".join(chance.choice("[[]]() 1 0-ab2") for _ in range(chance.randint(0, 9)))
            self.assert_right(chance.choice(SORTS), text)
            found.append(right_position(text))
        self.assertTrue(set(range(-1, 6)) <= set(found))

    def test_random_things(self):
        for net, setting in random_nets(912, 150, points=5, exits=6, ends=6):
            text = written("net", net)
            self.assertEqual([text, read("net", text)], [str((net.ends, net.exits())).replace(",", ""), net])
        for net, setting in random_nets(913, 100, points=5, exits=4, ends=3, leading=True):
            piece = Piece(net, setting, [0])
            text = written("piece", piece)
            self.assertEqual(text, str(((net.ends, net.exits()), setting, [0])).replace(",", ""))
            self.assertEqual([read("piece", text), kinds_of(read("piece", text))], [piece, kinds_of(piece)])

    def test_great_things(self):
        for seed in range(5):
            net, setting = big_net(seed, ends=6)
            piece = Piece(net, setting, [23, 0, 5, 1])
            self.assertEqual([read("net", written("net", net)), read("piece", written("piece", piece))], [net, piece])

    def test_what_is_read_is_new(self):
        for sort, text in (("visits", "[4 2]"), ("never", "([0] [4 2])")):
            told = read(sort, text)
            (told if sort == "visits" else told[1]).append(5)
            self.assertEqual(written(sort, read(sort, text)), text)


if __name__ == "__main__":
    unittest.main()
