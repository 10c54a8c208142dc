"""Nets, settings, who leads where, nets renumbered [1a]."""

import itertools
import random
import unittest

from flippedpoints.errors import InvalidEnds, InvalidExit, InvalidExits, InvalidNet, InvalidPoint, InvalidSequence
from flippedpoints.errors import InvalidSetting, InvalidTarget, InvalidTrack, TooMany
from flippedpoints.nets import Net, first_setting, is_leading, is_setting, last_exits, leads_to, many_settings
from flippedpoints.nets import point_of, renumbered, target_of, track_at
from tests.support import HUGE, INTEGERS, LISTS, PAIR, STRANGE, Call, CallTests
from tests.support import plain_is_leading, plain_leads, plain_run, random_nets
from tests.support import strange_but, wrong_indexes, wrong_nets, wrong_settings

NETS = (InvalidNet, wrong_nets())
POINTS = (InvalidPoint, wrong_indexes(2))
# 60 tracks: 24 points, twelve with three exits, twelve with two.
FULL = [[-1, at, at] for at in range(12)] + [[-6, 23] for _ in range(12)]
WIDE = Net(6, [[-1, -2, -3, -4, -5, -6], [0, 0, 1, 1, 0, -6], [2]])


class NetCalls(CallTests, unittest.TestCase):

    def calls(self):
        targets = STRANGE + LISTS + [PAIR, -2, 2, HUGE, -HUGE]
        sequences = strange_but(list, tuple) + [
            [], [0], [0, 0], [1, 1], (1, 1), [0, 1, 2], [0, 1, 1], [1, 2], [-1, 0], [0, HUGE], [True, 0], [1, False],
            [0, [1]], [(0,), 1], ["0", "1"], [None, 0], [0, {}], [[0, 1]], ((0, 1),), {0: 1, 1: 0}, {0, 1}, "01"]
        return [
            Call(track_at, {"net": PAIR, "point": 1, "spot": 1}, {
                "net": NETS, "point": POINTS, "spot": (InvalidExit, wrong_indexes(2))}),
            Call(point_of, {"net": PAIR, "track": 2}, {"net": NETS, "track": (InvalidTrack, wrong_indexes(4))}),
            Call(target_of, {"net": PAIR, "track": 2}, {"net": NETS, "track": (InvalidTrack, wrong_indexes(4))}),
            Call(is_setting, {"net": PAIR, "value": [1, 0]}, {"net": NETS}, asked=True),
            Call(first_setting, {"net": PAIR}, {"net": NETS}),
            Call(many_settings, {"net": PAIR}, {"net": NETS}),
            Call(last_exits, {"net": PAIR, "setting": [1, 0]}, {
                "net": NETS, "setting": (InvalidSetting, wrong_settings(PAIR, [1, 0]))}),
            Call(leads_to, {"net": PAIR, "target": -1}, {"net": NETS, "target": (InvalidTarget, targets)}),
            Call(is_leading, {"net": PAIR}, {"net": NETS}),
            Call(renumbered, {"net": PAIR, "sequence": [1, 0]}, {
                "net": NETS, "sequence": (InvalidSequence, sequences)}),
        ]


class NetMakingCalls(CallTests, unittest.TestCase):

    def calls(self):
        ends = STRANGE + LISTS + [PAIR, -1, 7, 8, HUGE]
        right = [[[0]], [(0,)], ([0],), ((0,), (0,))]
        shapes = [value for value in STRANGE if value not in right] + INTEGERS + [PAIR]
        shapes += [[], (), [0], (0, 0), [[]], [[0], []], [[0] * 7], [(0,) * 7], [[0]] * 25]
        for wrong in (1, 2, -2, HUGE, -HUGE, True, False, None, "0", [0], (0,), {}, b"0", PAIR):
            shapes += [[[0, wrong]], [[wrong]], ([wrong, -1],), [(0, -1, wrong)]]
        return [Call(Net, {"ends": 1, "exits": [[0, -1]]}, {
            "ends": (InvalidEnds, ends), "exits": (InvalidExits, shapes)})]

    def test_returned_lists_are_new_each_time(self):
        net = Net(1, [[0, 1], [0, -1]])
        net.exits().append([0])
        net.exits()[0].append(0)
        net.targets().append(0)
        self.assertEqual([net.exits(), net.targets(), net.many], [[[0, 1], [0, -1]], [0, 1, 0, -1], 4])


class NetTests(unittest.TestCase):

    def test_parts(self):
        for ends, exits in ((0, [[0]]), (6, WIDE.exits()), (1, PAIR.exits()), (6, FULL), (0, [[at] for at in range(24)])):
            net = Net(ends, exits)
            self.assertEqual([net.ends, net.points, net.many], [ends, len(exits), sum(map(len, exits))])
            self.assertEqual([net.exits(), net.targets()], [exits, sum(exits, [])])

    def test_bounds(self):
        Net(0, [[0]])
        Net(6, [[-6]])
        self.assertEqual(Net(6, FULL).many, 60)
        self.assertEqual(Net(0, [[23]] * 24).points, 24)
        self.assertEqual(Net(0, [[0] * 6] * 10).many, 60)
        for exits in (FULL[:-1] + [[23] * 3], [[0] * 6] * 10 + [[0]], [[0] * 6] * 24):
            with self.assertRaises(TooMany) as caught:
                Net(6, exits)
            self.assertEqual([caught.exception.what, caught.exception.limit], ["tracks", 60])
        for exits in ([[0] * 6] * 24 + [[0]], [[0] * 6] * 10 + [[-7]], [[0] * 6] * 10 + [[11]], [[0] * 6] * 10 + [[]]):
            with self.assertRaises(InvalidExits) as caught:
                Net(6, exits)
            self.assertIs(caught.exception.value, exits)
        with self.assertRaises(InvalidExits):
            Net(0, [[-1]])
        with self.assertRaises(InvalidEnds):
            Net(7, [[0] * 6] * 11)

    def test_lists_and_tuples_are_taken_alike(self):
        nets = [Net(1, [[0, 1], [0, -1]]), Net(1, ((0, 1), (0, -1))), Net(1, [(0, 1), [0, -1]]), Net(1, ([0, 1], (0, -1)))]
        for net in nets:
            self.assertEqual(net.exits(), [[0, 1], [0, -1]])
            self.assertEqual(net, PAIR)

    def test_what_was_passed_may_change(self):
        exits = [[0, 1], [0, -1]]
        net = Net(1, exits)
        exits[0][0] = 1
        exits.append([0])
        self.assertEqual([net.exits(), net.points, net.many, net.targets()], [[[0, 1], [0, -1]], 2, 4, [0, 1, 0, -1]])
        self.assertEqual(net, PAIR)

    def test_equal(self):
        self.assertTrue(PAIR == Net(1, [[0, 1], [0, -1]]))
        self.assertFalse(PAIR != Net(1, [[0, 1], [0, -1]]))
        others = [Net(2, [[0, 1], [0, -1]]), Net(1, [[1, 0], [0, -1]]), Net(1, [[0, 1], [0]]), Net(1, [[0], [1, 0, -1]]),
                  Net(1, [[0, 1], [0, -1], [0]]), Net(1, [[0, 1], [-1, 0]])]
        for other in others + STRANGE + INTEGERS + LISTS + [PAIR.exits(), (1, PAIR.exits()), PAIR.targets()]:
            with self.subTest(other=other):
                self.assertIs(PAIR == other, False)
                self.assertIs(PAIR != other, True)
                self.assertIs(other == PAIR, False)

    def test_parts_do_not_change(self):
        for name in ("ends", "points", "many"):
            with self.assertRaises(AttributeError):
                setattr(PAIR, name, 1)

    def test_tracks(self):
        for net in [net for net, _ in random_nets(1, 30, points=6, exits=6, ends=6)] + [Net(6, FULL), WIDE]:
            track = 0
            for point, row in enumerate(net.exits()):
                for spot, target in enumerate(row):
                    self.assertEqual(track_at(net, point, spot), track)
                    self.assertEqual([point_of(net, track), target_of(net, track)], [point, target])
                    track += 1
            self.assertEqual(net.many, track)
            with self.assertRaises(InvalidTrack):
                point_of(net, track)

    def test_spots_are_those_of_the_point(self):
        net = Net(0, [[0], [0, 0, 0]])
        self.assertEqual(track_at(net, 1, 2), 3)
        for spot in (1, 2):
            with self.assertRaises(InvalidExit) as caught:
                track_at(net, 0, spot)
            self.assertEqual(caught.exception.value, spot)

    def test_settings(self):
        for net, _ in random_nets(2, 30):
            sizes = [len(row) for row in net.exits()]
            rights = list(itertools.product(*map(range, sizes)))
            self.assertEqual(many_settings(net), len(rights))
            for right in rights:
                self.assertTrue(is_setting(net, right) and is_setting(net, list(right)))
            for at, size in enumerate(sizes):
                first = first_setting(net)
                self.assertEqual(first, [0] * net.points)
                first[at] = size
                self.assertFalse(is_setting(net, first) or is_setting(net, tuple(first)))
            self.assertFalse(is_setting(net, [0] * (net.points + 1)) or is_setting(net, [0] * (net.points - 1)))
        for wrong in wrong_settings(PAIR, [1, 0]):
            self.assertIs(is_setting(PAIR, wrong), False)
        self.assertEqual(many_settings(Net(6, FULL)), 3 ** 12 * 2 ** 12)

    def test_last_exits(self):
        self.assertEqual([last_exits(WIDE, [at, (at + 3) % 6, 0])[0] for at in range(6)], [-6, -1, -2, -3, -4, -5])
        for net, setting in random_nets(3, 60, points=5, exits=6, ends=6):
            told = last_exits(net, setting)
            for target, row, spot in zip(told, net.exits(), setting):
                self.assertEqual(target, row[-1] if spot == 0 else row[spot - 1])
            self.assertEqual(last_exits(net, tuple(setting)), told)

    def test_leading_on(self):
        alone = Net(1, [[1, -1], [1], [0]])
        self.assertEqual([leads_to(alone, 0), leads_to(alone, 1), leads_to(alone, 2)], [[2], [0, 1, 2], []])
        self.assertEqual([leads_to(alone, -1), is_leading(alone)], [[0, 2], False])
        self.assertEqual(leads_to(Net(2, [[-1]]), -2), [])
        for net, _ in random_nets(4, 200, points=6, ends=3):
            rows = net.exits()
            for target in range(-net.ends, net.points):
                right = [point for point in range(net.points) if plain_leads(rows, point, target)]
                self.assertEqual(leads_to(net, target), right)
            self.assertIs(is_leading(net), plain_is_leading(net.ends, rows))

    def test_leading(self):
        line = [[at + 1] for at in range(23)] + [[-1]]
        self.assertIs(is_leading(Net(1, line)), True)
        self.assertEqual(leads_to(Net(1, line), -1), list(range(24)))
        self.assertIs(is_leading(Net(1, line[:-1] + [[0]])), False)
        self.assertIs(is_leading(Net(0, [[0]])), False)
        self.assertIs(is_leading(Net(0, [[1, 0], [0]])), False)
        self.assertIs(is_leading(Net(1, [[0, 0, -1]])), True)
        self.assertIs(is_leading(Net(6, [[-1], [-6]])), True)

    def test_renumbered(self):
        three = Net(2, [[1, -1, 1], [2, 0], [-2, 2]])
        self.assertEqual(renumbered(three, (2, 0, 1)).exits(), [[-2, 0], [2, -1, 2], [0, 1]])
        self.assertEqual(renumbered(three, [0, 1, 2]), three)

    def test_renumbered_nets_run_alike(self):
        chance = random.Random(5)
        for net, setting in random_nets(5, 60, points=6):
            sequence = chance.sample(range(net.points), net.points)
            anew = renumbered(net, sequence)
            self.assertEqual(anew.ends, net.ends)
            self.assertEqual([len(row) for row in anew.exits()], [len(net.exits()[old]) for old in sequence])
            marks = [setting[old] for old in sequence]
            for begin in range(net.points):
                where, last, tracks = plain_run(net.exits(), setting, sequence[begin], 50)
                other, ends, _ = plain_run(anew.exits(), marks, begin, 50)
                self.assertEqual(other if other < 0 else sequence[other], where)
                self.assertEqual(list(ends), [last[old] for old in sequence])
            back = [sequence.index(point) for point in range(net.points)]
            self.assertEqual(renumbered(anew, back), net)


if __name__ == "__main__":
    unittest.main()
