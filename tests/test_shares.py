"""Shares, expected visits, tilts, what comes [6a]."""

import itertools
import random
import unittest
from fractions import Fraction

from flippedpoints.cuts import fewest_cut, good_cut
from flippedpoints.errors import InvalidEnd, InvalidNet, InvalidPoint, InvalidSetting, InvalidStarts, NotLeading, TooMany
from flippedpoints.fast import sent
from flippedpoints.nets import Net
from flippedpoints.shares import come_bounds, come_by_tilt, expected, is_expected, is_share, share, tilt, tilts
from tests.support import HUGE, INTEGERS, LISTS, PAIR, STRANGE, Call, CallTests
from tests.support import big_net, far_come, one_at, plain_visits, random_nets
from tests.support import wrong_indexes, wrong_nets, wrong_numbers, wrong_settings

FORK = Net(2, [[1, -1], [0, -2]])
NETS = (InvalidNet, wrong_nets())
SETTINGS = (InvalidSetting, wrong_settings(FORK, [1, 0]))
BEGINS = (InvalidPoint, wrong_indexes(2) + [-2])
ENDS = (InvalidEnd, wrong_indexes(2) + [-2])
STARTS = (InvalidStarts, wrong_numbers([7, 2]))
LOST = Net(2, [[1, -1], [1]])
MOST = HUGE - 1


def told(fraction):
    """A Fraction as the package tells it."""
    return fraction.numerator, fraction.denominator


def plain_solution(rows, right):
    """Solve a table of Fractions."""
    table = [list(map(Fraction, row)) + [Fraction(one)] for row, one in zip(rows, right)]
    for at in range(len(table)):
        pivot = next(row for row in range(at, len(table)) if table[row][at] != 0)
        table[at], table[pivot] = table[pivot], table[at]
        table[at] = [one / table[at][at] for one in table[at]]
        for other in range(len(table)):
            if other != at:
                table[other] = [one - table[other][at] * two for one, two in zip(table[other], table[at])]
    return [row[-1] for row in table]


def plain_share(net, end):
    rows = net.exits()
    table = [[Fraction(int(point == goal)) - Fraction(row.count(goal), len(row)) for goal in range(net.points)]
             for point, row in enumerate(rows)]
    return plain_solution(table, [Fraction(row.count(-1 - end), len(row)) for row in rows])


def plain_expected(net, begin):
    rows = net.exits()
    table = [[Fraction(int(point == goal)) - Fraction(rows[goal].count(point), len(rows[goal])) for goal in range(net.points)]
             for point in range(net.points)]
    return plain_solution(table, one_at(net.points, begin))


def plain_tilt(net, setting, end):
    worth = plain_share(net, end)
    sums = Fraction(0)
    for point, (row, spot) in enumerate(zip(net.exits(), setting)):
        for target in row[:spot]:
            there = worth[target] if target >= 0 else Fraction(int(target == -1 - end))
            sums += there - worth[point]
    return sums


def settings_of(net):
    return itertools.product(*[range(len(row)) for row in net.exits()])


class ShareCalls(CallTests, unittest.TestCase):

    def calls(self):
        begun, wrong_begun = {"net": FORK, "begin": 0}, {"net": NETS, "begin": BEGINS}
        ended, wrong_ended = {"net": FORK, "end": 0}, {"net": NETS, "end": ENDS}
        return [
            Call(expected, begun, wrong_begun),
            Call(share, ended, wrong_ended),
            Call(is_share, {**ended, "value": [(2, 3), (1, 3)]}, wrong_ended, asked=True),
            Call(is_expected, {**begun, "value": [(4, 3), (2, 3)]}, wrong_begun, asked=True),
            Call(tilt, {"net": FORK, "setting": [1, 0], "end": 0}, {"net": NETS, "setting": SETTINGS, "end": ENDS}),
            Call(tilts, ended, wrong_ended),
            Call(come_by_tilt, {"net": FORK, "setting": [1, 0], "starts": [7, 2], "end": 1}, {
                "net": NETS, "setting": SETTINGS, "starts": STARTS, "end": ENDS}),
            Call(come_bounds, {"net": FORK, "starts": [7, 2], "end": 1}, {"net": NETS, "starts": STARTS, "end": ENDS}),
        ]

    def good(self):
        return [(expected, [0]), (share, [1]), (is_share, [1, [(0, 1), (0, 1)]]), (is_expected, [0, []]), (tilt, [[1, 0], 1]),
                (tilts, [1]), (come_by_tilt, [[1, 0], [1, 0], 1]), (come_bounds, [[1, 0], 1])]

    def test_not_leading(self):
        for function, arguments in self.good():
            with self.assertRaises(NotLeading):
                function(LOST, *arguments)
        for net in (Net(0, [[0]]), Net(0, [[1], [0]])):
            with self.assertRaises(NotLeading):
                expected(net, 0)
            with self.assertRaises(NotLeading):
                is_expected(net, 0, None)
            # A net without ends has no end that could be asked for.
            with self.assertRaises(InvalidEnd):
                share(net, 0)
        for function, arguments, error in ((expected, [2], InvalidPoint), (share, [2], InvalidEnd), (is_share, [2, []], InvalidEnd),
                                           (is_expected, [2, []], InvalidPoint), (tilt, [[1, 0], 2], InvalidEnd),
                                           (tilts, [2], InvalidEnd), (come_by_tilt, [[1, 0], [1, 0], 2], InvalidEnd),
                                           (come_bounds, [[1, 0], 2], InvalidEnd)):
            with self.assertRaises(error):
                function(LOST, *arguments)

    def test_too_many_comes_last(self):
        net = Net(1, [[at, -1] for at in range(5)])
        with self.assertRaises(TooMany) as caught:
            come_by_tilt(net, [0] * 5, [0] * 5, 0)
        self.assertEqual([caught.exception.what, caught.exception.limit], ["cut", 4])
        with self.assertRaises(InvalidEnd):
            come_by_tilt(net, [0] * 5, [0] * 5, 1)
        with self.assertRaises(NotLeading):
            come_by_tilt(Net(1, [[at] for at in range(5)]), [0] * 5, [0] * 5, 0)
        # The others need no cut.
        self.assertEqual(expected(net, 3), [(0, 1)] * 3 + [(2, 1), (0, 1)])
        self.assertEqual(come_bounds(net, [1, 2, 3, 4, MOST], 0), (MOST + 10, MOST + 10))
        self.assertEqual([tilts(net, 0), tilt(net, [1] * 5, 0)], [((0, 1), (0, 1)), (0, 1)])


class Shares(unittest.TestCase):

    def assert_fractions(self, found, right):
        self.assertEqual(found, list(map(told, right)))
        self.assertEqual([found.__class__, {one.__class__ for one in found}], [list, {tuple}])

    def some(self, seed, many, **kinds):
        return [net for net, _ in random_nets(seed, many, leading=True, **kinds)]

    def test_shares(self):
        for net in self.some(601, 150, points=6, exits=6, ends=6):
            sums = [Fraction(0)] * net.points
            for end in range(net.ends):
                right = plain_share(net, end)
                self.assert_fractions(share(net, end), right)
                self.assertIs(is_share(net, end, share(net, end)), True)
                sums = [one + two for one, two in zip(sums, right)]
            # All ends together take all.
            self.assertEqual(sums, [1] * net.points)

    def test_expected(self):
        for net in self.some(602, 150, points=6, exits=6, ends=6):
            for begin in range(net.points):
                right = plain_expected(net, begin)
                self.assert_fractions(expected(net, begin), right)
                self.assertIs(is_expected(net, begin, expected(net, begin)), True)
                for end in range(net.ends):
                    parts = [part * row.count(-1 - end) / len(row) for part, row in zip(right, net.exits())]
                    self.assertEqual(share(net, end)[begin], told(sum(parts, Fraction(0))))

    def test_edges(self):
        self.assertEqual(share(Net(2, [[-1]]), 0), [(1, 1)])
        self.assertEqual(share(Net(2, [[-1]]), 1), [(0, 1)])
        self.assertEqual(share(Net(6, [[-6, -6, -1, -2, -6, -1]]), 5), [(1, 2)])
        # A track to the point itself changes no share, but the visits.
        self.assertEqual(share(Net(2, [[0, 0, 0, -1, -2, -2]]), 0), [(1, 3)])
        self.assertEqual(expected(Net(2, [[0, 0, 0, -1, -2, -2]]), 0), [(2, 1)])
        # Points that aren't come to.
        self.assertEqual(expected(Net(1, [[-1], [0, 0], [2, -1]]), 1), [(1, 1), (1, 1), (0, 1)])

    def test_big_nets(self):
        for seed in range(15):
            net, _ = big_net(seed, ends=6)
            for end in range(0, 6, 5):
                found = share(net, end)
                self.assert_fractions(found, plain_share(net, end))
                self.assertIs(is_share(net, end, found), True)
            found = expected(net, seed)
            self.assert_fractions(found, plain_expected(net, seed))
            self.assertIs(is_expected(net, seed, found), True)
        line = Net(1, [[0, at + 1] for at in range(23)] + [[0, -1]])
        self.assertEqual(expected(line, 0), [(2 ** (24 - at), 1) for at in range(24)])
        slow = Net(1, [[0, 0, at + 1] for at in range(19)] + [[0, 0, -1]])
        self.assertEqual(expected(slow, 0), [(3 ** (20 - at), 1) for at in range(20)])


class AnyValue(unittest.TestCase):

    def wrong(self, right):
        """Lists that are nearly right, and values of other kinds."""
        values = STRANGE + INTEGERS + LISTS + [PAIR, right[:-1], right + right[-1:], right + [(0, 1)], [], [right], (right,), str(right)]
        for at, (over, beneath) in enumerate(right):
            for part in ((2 * over, 2 * beneath), (-over, -beneath), (over + beneath, beneath), (over, beneath + 1),
                         [over, beneath], (over, beneath, 1), (over,), over, (), None, True, str((over, beneath)), {over: beneath},
                         (str(over), beneath), (over, str(beneath)), ((over,), beneath), (over, [beneath]), (over, 0), (0, 0), (1, 0),
                         (None, beneath), (over, None), (HUGE, 1), (1, HUGE), (-1, 1), PAIR):
                for make in (list, tuple):
                    values.append(make(right[:at] + [part] + right[at + 1:]))
        return values + [dict(enumerate(right)), set(right), iter(right)]

    def test_shares(self):
        for net, end, right in ((FORK, 0, [(2, 3), (1, 3)]), (FORK, 1, [(1, 3), (2, 3)]), (Net(2, [[-1, -2], [1, -2]]), 0, [(1, 2), (0, 1)])):
            self.assertEqual([is_share(net, end, right), is_share(net, end, tuple(right)), share(net, end)], [True, True, right])
            for value in self.wrong(right):
                self.assertIs(is_share(net, end, value), False, value)
        # True isn't 1, False isn't 0, also in fractions.
        one, none = Net(1, [[-1]]), Net(2, [[-2]])
        self.assertEqual([is_share(one, 0, [(1, 1)]), is_share(none, 0, [(0, 1)])], [True, True])
        for value in ([(True, 1)], [(1, True)], [(True, True)]):
            self.assertIs(is_share(one, 0, value), False)
        for value in ([(False, 1)], [(0, True)], [(False, True)], [(0, 2)], [(0, -1)]):
            self.assertIs(is_share(none, 0, value), False)

    def test_expected(self):
        for net, begin, right in ((FORK, 0, [(4, 3), (2, 3)]), (FORK, 1, [(2, 3), (4, 3)]), (Net(1, [[0, -1], [0]]), 0, [(2, 1), (0, 1)])):
            self.assertEqual([is_expected(net, begin, right), is_expected(net, begin, tuple(right)), expected(net, begin)],
                             [True, True, right])
            for value in self.wrong(right):
                self.assertIs(is_expected(net, begin, value), False, value)
        one = Net(1, [[-1], [-1]])
        self.assertIs(is_expected(one, 0, [(1, 1), (0, 1)]), True)
        for value in ([(True, 1), (0, 1)], [(1, True), (0, 1)], [(1, 1), (False, 1)], [(1, 1), (0, True)], [(0, 1), (1, 1)]):
            self.assertIs(is_expected(one, 0, value), False)

    def test_shares_of_other_ends_and_points(self):
        for net, _ in random_nets(603, 60, points=4, ends=3, leading=True):
            for end in range(net.ends):
                for other in range(net.ends):
                    self.assertIs(is_share(net, other, share(net, end)), share(net, end) == share(net, other))
            for begin in range(net.points):
                for other in range(net.points):
                    self.assertIs(is_expected(net, other, expected(net, begin)), begin == other)

    def test_numbers_of_forty_digits(self):
        far = 10 ** 39 + 1
        for value in ([(far, far - 1)] * 2, [(1, far)] * 2, [(-far, 7)] * 2, [(far, 1), (1, far)]):
            self.assertIs(is_share(FORK, 0, value), False)
            self.assertIs(is_expected(FORK, 0, value), False)


class Tilts(unittest.TestCase):

    def test_all_settings(self):
        for net, _ in random_nets(611, 60, points=4, exits=4, ends=3, leading=True):
            for end in range(net.ends):
                right = {setting: plain_tilt(net, setting, end) for setting in settings_of(net)}
                for setting, one in right.items():
                    self.assertEqual(tilt(net, list(setting), end), told(one))
                    self.assertEqual(tilt(net, setting, end).__class__, tuple)
                self.assertEqual(tilts(net, end), (told(min(right.values())), told(max(right.values()))))

    def test_big_nets(self):
        for seed in range(10):
            net, setting = big_net(seed, ends=3)
            for end in range(3):
                self.assertEqual(tilt(net, setting, end), told(plain_tilt(net, setting, end)))
                least, greatest = [Fraction(*one) for one in tilts(net, end)]
                self.assertTrue(least <= Fraction(*tilt(net, setting, end)) <= greatest)
                self.assertTrue(least <= 0 <= greatest)

    def test_a_whole_turn_comes_to_nothing(self):
        for net, _ in random_nets(612, 60, points=4, ends=3, leading=True):
            for end in range(net.ends):
                worth = plain_share(net, end)
                for point, row in enumerate(net.exits()):
                    there = [worth[goal] if goal >= 0 else int(goal == -1 - end) for goal in row]
                    self.assertEqual(sum(there), worth[point] * len(row))
        self.assertEqual(tilt(FORK, [0, 0], 0), (0, 1))


class WhatComes(unittest.TestCase):

    def test_small_nets(self):
        chance = random.Random(621)
        for net, setting in random_nets(621, 150, points=5, exits=4, ends=6, leading=True):
            if len(fewest_cut(net)) > 4:
                continue
            for most in (0, 1, 9):
                starts = [chance.randint(0, most) for _ in range(net.points)]
                visits, marks = plain_visits(net.exits(), setting, starts, 10 ** 6)
                come = far_come(net.ends, net.exits(), setting, visits)
                for end in range(net.ends):
                    self.assertEqual(come_by_tilt(net, setting, starts, end), come[end])
                    self.assertEqual(come_by_tilt(net, tuple(setting), tuple(starts), end), come[end])
                    worth = plain_share(net, end)
                    shared = sum(many * part for many, part in zip(starts, worth))
                    self.assertEqual(shared + plain_tilt(net, marks, end) - plain_tilt(net, setting, end), come[end])

    def test_big_nets(self):
        chance = random.Random(622)
        many = 0
        for seed in range(60):
            net, setting = big_net(seed, tracks=chance.choice([30, 36, 48]), ends=4)
            starts = [chance.choice([0, 1, chance.randrange(HUGE), MOST]) for _ in range(24)]
            for end in range(4):
                least, greatest = come_bounds(net, starts, end)
                if len(good_cut(net)) <= 4:
                    many += 1
                    come = come_by_tilt(net, setting, starts, end)
                    self.assertEqual(come, sent(net, setting, starts)[1][end])
                    self.assertTrue(least <= come <= greatest)
        self.assertGreater(many, 60)

    def test_bounds(self):
        chance = random.Random(623)
        edges = set()
        for net, _ in random_nets(623, 120, points=4, exits=3, ends=3, leading=True):
            for most in (0, 1, 5):
                starts = [chance.randint(0, most) for _ in range(net.points)]
                for end in range(net.ends):
                    least, greatest = [Fraction(*one) for one in tilts(net, end)]
                    shared = sum(many * part for many, part in zip(starts, plain_share(net, end)))
                    fits = [many for many in range(sum(starts) + 1)
                            if shared - (greatest - least) <= many <= shared + (greatest - least)]
                    found = come_bounds(net, starts, end)
                    self.assertEqual(found, (fits[0], fits[-1]))
                    self.assertEqual([found.__class__, come_bounds(net, tuple(starts), end)], [tuple, found])
                    if shared < greatest - least:
                        edges.add("below")
                    if shared + greatest - least > sum(starts):
                        edges.add("above")
                    for setting in itertools.islice(settings_of(net), 12):
                        visits, _ = plain_visits(net.exits(), setting, starts, 10 ** 6)
                        come = far_come(net.ends, net.exits(), setting, visits)[end]
                        self.assertTrue(found[0] <= come <= found[1])
        self.assertEqual(edges, {"below", "above"})

    def test_rounded_bounds(self):
        # The sum of shares is just 3/2 and the difference of tilts 1/2: both bounds are met exactly.
        half = Net(2, [[-1, -2]])
        self.assertEqual([tilts(half, 0), tilts(half, 1)], [((0, 1), (1, 2)), ((-1, 2), (0, 1))])
        self.assertEqual([come_bounds(half, [many], 0) for many in range(5)], [(0, 0), (0, 1), (1, 1), (1, 2), (2, 2)])
        self.assertEqual(come_bounds(FORK, [7, 2], 0), (5, 6))
        self.assertEqual(come_bounds(FORK, [0, 0], 0), (0, 0))
        self.assertEqual(come_bounds(half, [MOST], 0), ((MOST - 1) // 2, (MOST + 1) // 2))
        self.assertEqual(come_by_tilt(half, [0], [MOST], 0), (MOST + 1) // 2)
        self.assertEqual(come_by_tilt(half, [1], [MOST], 0), (MOST - 1) // 2)


if __name__ == "__main__":
    unittest.main()
