"""Papers as they are told [5b]."""

import itertools
import random
import unittest

from flippedpoints.cuts import fewest_cut
from flippedpoints.errors import InvalidEnd, InvalidNet, InvalidPoint, InvalidSetting, InvalidStarts
from flippedpoints.errors import NotLeading, TooMany
from flippedpoints.fast import fast_flow
from flippedpoints.lost import closed, lost_points
from flippedpoints.nets import Net
from flippedpoints.papers import arrive_paper, crowd_paper, never_paper, own_paper
from tests.support import HUGE, PAIR, Call, CallTests
from tests.support import big_net, far_come, far_is_least, one_at, plain_entered, plain_lost, plain_visits, random_nets, trapped
from tests.support import wrong_indexes, wrong_nets, wrong_numbers, wrong_settings

TRAP = Net(1, [[1, -1], [1]])
NETS = (InvalidNet, wrong_nets())
SETTINGS = (InvalidSetting, wrong_settings(PAIR, [0, 1]))
BEGINS = (InvalidPoint, wrong_indexes(2) + [-2])
ENDS = (InvalidEnd, wrong_indexes(1) + [-2])
STARTS = (InvalidStarts, wrong_numbers([3, 1]))
MOST = HUGE - 1
WIDE = Net(6, [[1, -1, 2], [2, -2, 3, -3], [0, -4, 4, -5], [3, 4], [4, 3], [5, -6, 3]])


def looped(points):
    """All points have a track to themselves; the last one is lost."""
    return Net(1, [[at, at + 1, -1] for at in range(points - 1)] + [[points - 1]])


class PaperCalls(CallTests, unittest.TestCase):

    def calls(self):
        own, wrong = {"net": PAIR, "setting": [0, 1]}, {"net": NETS, "setting": SETTINGS}
        begun, wrong_begun = {**own, "begin": 1}, {**wrong, "begin": BEGINS}
        trapped_train = {"net": TRAP, "setting": [0, 0], "begin": 0}
        return [
            Call(arrive_paper, {**begun, "end": 0}, {**wrong_begun, "end": ENDS}),
            Call(never_paper, begun, wrong_begun),
            Call(never_paper, trapped_train, {"net": NETS, "setting": (InvalidSetting, wrong_settings(TRAP, [0, 0])), "begin": BEGINS}),
            Call(own_paper, begun, wrong_begun),
            Call(crowd_paper, {**own, "starts": [3, 1]}, {**wrong, "starts": STARTS}),
        ]

    def test_what_comes_behind_the_parameters(self):
        five = looped(6)
        setting, starts = [0] * 6, [0] * 6
        for begin in (0, 5):
            for function, more in ((arrive_paper, [0]), (never_paper, []), (own_paper, [])):
                with self.assertRaises(TooMany) as caught:
                    function(five, setting, begin, *more)
                self.assertEqual([caught.exception.what, caught.exception.limit], ["cut", 4])
        with self.assertRaises(InvalidEnd):
            arrive_paper(five, setting, 0, 1)
        with self.assertRaises(InvalidPoint):
            arrive_paper(five, setting, 6, 1)
        with self.assertRaises(NotLeading):
            crowd_paper(five, setting, starts)
        with self.assertRaises(InvalidStarts):
            crowd_paper(five, setting, [0] * 5)
        with self.assertRaises(TooMany) as caught:
            crowd_paper(Net(1, [[at, -1] for at in range(5)]), [0] * 5, [0] * 5)
        self.assertEqual([caught.exception.what, caught.exception.limit], ["cut", 4])
        # Rings of lost points need no cut, four other points are few enough.
        net = Net(1, [[at, at + 1, -1] for at in range(4)] + [[at, 4] for at in range(4, 16)])
        self.assertEqual(own_paper(net, [2] * 4 + [0] * 12, 0), one_at(16, 0))
        self.assertEqual(never_paper(net, [0] * 16, 9), (list(range(4, 16)), one_at(16, 9)))


class OneTrain(unittest.TestCase):

    def assert_train(self, net, setting, begin):
        rows = net.exits()
        lost = plain_lost(net.ends, rows)
        where, visits = plain_entered(rows, setting, begin, lost)
        if where < 0:
            for end in range(net.ends):
                self.assertEqual(arrive_paper(net, setting, begin, end), visits if end == -1 - where else None)
                self.assertEqual(arrive_paper(net, tuple(setting), begin, end), visits if end == -1 - where else None)
            self.assertEqual(own_paper(net, setting, begin), visits)
            self.assertEqual(own_paper(net, tuple(setting), begin).__class__, list)
            self.assertIsNone(never_paper(net, setting, begin))
            return True
        visits[where] += 1
        told = never_paper(net, setting, begin)
        self.assertEqual(told, (lost, visits))
        self.assertEqual([told.__class__, told[0].__class__, told[1].__class__], [tuple, list, list])
        self.assertEqual(never_paper(net, tuple(setting), begin), told)
        self.assertIsNone(own_paper(net, setting, begin))
        for end in range(net.ends):
            self.assertIsNone(arrive_paper(net, setting, begin, end))
        return False

    def test_small_nets(self):
        told = []
        for ends in (1, 2, 6):
            for leading in (True, False, None):
                for net, setting in random_nets(520 + ends, 60, points=6, ends=ends, leading=leading):
                    if len(fewest_cut(net)) <= 4:
                        told += [self.assert_train(net, setting, begin) for begin in range(net.points)]
        self.assertGreater(told.count(True), 500)
        self.assertGreater(told.count(False), 200)

    def test_all_settings_of_a_net_with_six_ends(self):
        for setting in itertools.product(*[range(len(row)) for row in WIDE.exits()]):
            self.assert_train(WIDE, list(setting), sum(setting) % 3)

    def test_nets_without_ends(self):
        for setting in itertools.product(range(2), repeat=3):
            for begin in range(3):
                net = Net(0, [[0, 1], [1, 2], [2, 0]])
                self.assertEqual(never_paper(net, setting, begin), ([0, 1, 2], one_at(3, begin)))
                self.assertIsNone(own_paper(net, setting, begin))

    def test_a_train_that_begins_at_a_lost_point(self):
        for net in (TRAP, WIDE, trapped(6, 24, 20)):
            lost = lost_points(net)
            for begin in lost:
                self.assertEqual(never_paper(net, [0] * net.points, begin), (lost, one_at(net.points, begin)))
                self.assertIsNone(own_paper(net, [0] * net.points, begin))
                self.assertIsNone(arrive_paper(net, [0] * net.points, begin, 0))

    def test_the_visits_are_those_of_the_closed_net(self):
        for net, setting in random_nets(527, 80, points=6, ends=5, leading=False):
            shut, spots = closed(net, setting, lost_points(net))
            for begin in range(net.points):
                paper = never_paper(net, setting, begin)
                if paper is not None:
                    self.assertEqual(paper[1], fast_flow(shut, spots, one_at(net.points, begin)))

    def test_long_runs(self):
        for ends in (1, 6):
            net = Net(ends, [[0, at + 1] for at in range(21)] + [[-ends, 22], [22]])
            visits = [2 ** (21 - at) for at in range(22)] + [0]
            self.assertEqual(arrive_paper(net, [0] * 23, 0, ends - 1), visits)
            self.assertEqual(own_paper(net, [0] * 23, 0), visits)
            self.assertIsNone(never_paper(net, [0] * 23, 0))
            self.assertEqual(never_paper(net, [0] * 21 + [1, 0], 0), ([22], visits[:-1] + [1]))
            self.assertIsNone(own_paper(net, [0] * 21 + [1, 0], 0))


class Crowds(unittest.TestCase):

    def test_small_nets(self):
        chance = random.Random(531)
        for net, setting in random_nets(531, 150, points=5, ends=6, leading=True):
            starts = [chance.randint(0, 5) for _ in range(net.points)]
            if len(fewest_cut(net)) > 4:
                continue
            visits, _ = plain_visits(net.exits(), setting, starts, 10 ** 6)
            told = crowd_paper(net, setting, starts)
            self.assertEqual(told, (visits, far_come(net.ends, net.exits(), setting, visits)))
            self.assertEqual([told.__class__, told[0].__class__, told[1].__class__], [tuple, list, list])
            self.assertEqual(crowd_paper(net, tuple(setting), tuple(starts)), told)
            none = [0] * net.points
            self.assertEqual(crowd_paper(net, setting, none), (none, [0] * net.ends))

    def test_big_nets(self):
        chance = random.Random(532)
        told = 0
        for seed in range(60):
            net, setting = big_net(seed, tracks=chance.choice([30, 36, 48]), ends=6)
            starts = [chance.choice([0, 1, MOST]) for _ in range(24)]
            try:
                visits, come = crowd_paper(net, setting, starts)
            except TooMany:
                continue
            told += 1
            self.assertTrue(far_is_least(net.exits(), setting, starts, visits))
            self.assertEqual(come, far_come(6, net.exits(), setting, visits))
            self.assertEqual(sum(come), sum(starts))
        self.assertGreater(told, 20)

    def test_more_than_thirty_digits(self):
        self.assertEqual(crowd_paper(PAIR, [0, 0], [MOST, MOST]), ([6 * MOST, 4 * MOST], [2 * MOST]))


if __name__ == "__main__":
    unittest.main()
