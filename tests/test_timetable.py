"""Timetables: how often a track is gone, when, and where the train stands [7b]."""

import random
import unittest

from flippedpoints.cuts import good_cut
from flippedpoints.errors import InvalidNet, InvalidPoint, InvalidSetting, InvalidTimes, InvalidTrack, NotLeading, TooMany
from flippedpoints.nets import Net, target_of, track_at
from flippedpoints.timetable import last_passed, passed, passed_within, passing_time, track_gone_at, where_at
from tests.support import HUGE, PAIR, Call, CallTests
from tests.support import big_net, plain_run, random_nets, trapped, wrong_indexes, wrong_nets, wrong_settings, wrong_times

TWO = Net(2, [[1, -1], [0, 1, -2]])
MOST = HUGE - 1
FIVE = Net(1, [[at, -1] for at in range(5)])


def table(net, setting, begin, track, times):
    """All six answers."""
    return [passed(net, setting, begin, track), passed_within(net, setting, begin, track, times),
            passing_time(net, setting, begin, track, times), last_passed(net, setting, begin, track),
            where_at(net, setting, begin, times), track_gone_at(net, setting, begin, times)]


class TimetableCalls(CallTests, unittest.TestCase):

    def calls(self):
        own = {"net": TWO, "setting": [0, 1], "begin": 1}
        wrong = {"net": (InvalidNet, wrong_nets()), "setting": (InvalidSetting, wrong_settings(TWO, [0, 1])),
                 "begin": (InvalidPoint, wrong_indexes(2) + [-2])}
        track, tracks = {"track": 3}, {"track": (InvalidTrack, wrong_indexes(5) + [-5])}
        times, wrong_time = {"times": 2}, {"times": (InvalidTimes, wrong_times())}
        return [
            Call(passed, {**own, **track}, {**wrong, **tracks}),
            Call(passed_within, {**own, **track, **times}, {**wrong, **tracks, **wrong_time}),
            Call(passing_time, {**own, **track, **times}, {**wrong, **tracks, **wrong_time}),
            Call(last_passed, {**own, **track}, {**wrong, **tracks}),
            Call(where_at, {**own, **times}, {**wrong, **wrong_time}),
            Call(track_gone_at, {**own, **times}, {**wrong, **wrong_time}),
        ]

    def assert_all_raise(self, error, net, setting, begin, track, times):
        for function in (passed, last_passed):
            with self.assertRaises(error) as caught:
                function(net, setting, begin, track)
            self.assertIs(caught.exception.__class__, error)
        for function, arguments in ((passed_within, (track, times)), (passing_time, (track, times)),
                                    (where_at, (times,)), (track_gone_at, (times,))):
            with self.assertRaises(error) as caught:
                function(net, setting, begin, *arguments)
            self.assertIs(caught.exception.__class__, error)
            if error is TooMany:
                self.assertEqual([caught.exception.what, caught.exception.limit], ["cut", 4])

    def test_what_comes_behind_the_parameters(self):
        lost = Net(1, [[1, -1], [1]])
        # Also a train that comes to an end, and a net whose cuts are too great.
        for net, setting in ((lost, [0, 0]), (lost, [1, 0]), (Net(0, [[0]]), [0]), (Net(1, FIVE.exits() + [[5]]), [0] * 6)):
            for times in (0, 1, MOST):
                self.assert_all_raise(NotLeading, net, setting, 0, 0, times)
        for setting in ([0] * 5, [1] * 5):
            for times in (0, 1, MOST):
                self.assert_all_raise(TooMany, FIVE, setting, 1, 2, times)
        for function, arguments in ((passed, (2,)), (last_passed, (-1,)), (passed_within, (0, -1)), (passing_time, (0, HUGE)),
                                    (where_at, (HUGE,)), (track_gone_at, (-1,))):
            for net in (lost, FIVE):
                setting = [0] * net.points
                with self.assertRaises((InvalidTrack, InvalidTimes)):
                    function(net, setting, 0, *[40 if value == 2 else value for value in arguments])
        for net in (lost, FIVE):
            self.assert_all_raise(InvalidPoint, net, [0] * net.points, 24, 0, 0)

    def test_cuts_of_four_points_are_enough(self):
        four = Net(1, [[at, -1] for at in range(4)] + [[0, -1]])
        # The loop first, then the end.
        self.assertEqual(table(four, [0] * 5, 4, 1, 2), [1, 0, None, 3, 0, 1])
        self.assertEqual(table(four, [0] * 5, 4, 8, 1), [1, 1, 1, 1, 0, 0])


class SmallNets(unittest.TestCase):

    def assert_like_a_run(self, net, setting, begin):
        _, _, tracks = plain_run(net.exits(), setting, begin, 10 ** 5)
        places = [begin] + [target_of(net, track) for track in tracks]
        for steps in range(len(tracks) + 3):
            late = steps >= len(tracks)
            self.assertEqual(where_at(net, setting, begin, steps), places[-1 if late else steps])
            self.assertEqual(track_gone_at(net, setting, begin, steps), None if late else tracks[steps])
        for track in range(net.many):
            times = [at + 1 for at, one in enumerate(tracks) if one == track]
            self.assertEqual(passed(net, setting, begin, track), len(times))
            self.assertEqual(last_passed(net, setting, begin, track), times[-1] if times else None)
            self.assertEqual([passing_time(net, setting, begin, track, many) for many in range(len(times) + 3)],
                             [0] + times + [None, None])
            for steps in range(0, len(tracks) + 3, 3):
                self.assertEqual(passed_within(net, setting, begin, track, steps), tracks[:steps].count(track))
        return len(tracks)

    def test_step_by_step(self):
        lengths = []
        for net, setting in random_nets(711, 90, points=4, exits=4, ends=3, leading=True):
            for begin in range(net.points):
                lengths.append(self.assert_like_a_run(net, setting, begin))
        for net, setting in random_nets(712, 25, points=7, exits=2, ends=1, leading=True):
            if len(good_cut(net)) <= 4:
                lengths.append(self.assert_like_a_run(net, setting, 0))
        self.assertGreater(max(lengths), 20)

    def test_cuts_of_several_points(self):
        # Rings at each of four points, and one through all of them.
        for setting in ([0, 0, 0, 0], [1, 2, 1, 0], [2, 1, 0, 1]):
            for begin in range(4):
                self.assert_like_a_run(Net(1, [[0, 1, 2], [1, 2, 0], [2, 3, 1], [3, 0, -1]]), setting, begin)

    def test_tuples_are_told_like_lists(self):
        for times in range(8):
            self.assertEqual(table(PAIR, (1, 0), 0, 1, times), table(PAIR, [1, 0], 0, 1, times))

    def test_the_overview(self):
        # It goes the tracks 0, 1, 2, 0, 1, 3 [7b].
        self.assertEqual([track_gone_at(PAIR, [0, 0], 0, step) for step in range(8)], [0, 1, 2, 0, 1, 3, None, None])
        self.assertEqual(passing_time(PAIR, [0, 0], 0, 0, 2), 4)
        self.assertEqual([where_at(PAIR, [0, 0], 0, steps) for steps in (0, 3, 5, 6, 7, MOST)], [0, 0, 1, -1, -1, -1])
        self.assertEqual([passed_within(PAIR, [0, 0], 0, 0, steps) for steps in range(8)], [0, 1, 1, 1, 2, 2, 2, 2])

    def test_edges_of_numbers(self):
        for track, many in ((0, 2), (1, 2), (2, 1), (3, 1)):
            self.assertEqual(passing_time(PAIR, [0, 0], 0, track, 0), 0)
            self.assertEqual(passed_within(PAIR, [0, 0], 0, track, 0), 0)
            self.assertEqual(passed_within(PAIR, [0, 0], 0, track, MOST), many)
            self.assertIsNone(passing_time(PAIR, [0, 0], 0, track, many + 1))
            self.assertIsNone(passing_time(PAIR, [0, 0], 0, track, MOST))
            self.assertEqual(passing_time(PAIR, [0, 0], 0, track, many), last_passed(PAIR, [0, 0], 0, track))
        # From the second point, to the end at once: the others are never gone.
        self.assertEqual([last_passed(PAIR, [0, 1], 1, track) for track in range(4)], [None, None, None, 1])
        self.assertEqual([passing_time(PAIR, [0, 1], 1, track, 0) for track in range(4)], [0] * 4)
        self.assertEqual([passing_time(PAIR, [0, 1], 1, track, 1) for track in range(4)], [None, None, None, 1])

    def test_a_track_to_itself(self):
        loops = Net(1, [[0, 0, 0, -1, 0, 0]])
        self.assertEqual([passing_time(loops, [4], 0, track, 1) for track in range(6)], [3, 4, 5, 6, 1, 2])
        self.assertEqual([passing_time(loops, [4], 0, track, 2) for track in range(6)], [None] * 6)
        self.assertEqual([where_at(loops, [4], 0, steps) for steps in range(8)], [0] * 6 + [-1] * 2)
        for spot in range(6):
            self.assert_like_a_run(loops, [spot], 0)

    def test_six_ends(self):
        # A gate would be a seventh end.
        six = Net(6, [[1, -1, 2, -2, 0], [0, 2, -3, -4], [1, 0, -5, -6, 2]])
        for setting in ([0, 0, 0], [2, 1, 4], [4, 3, 1], [0, 1, 1], [4, 1, 4]):
            for begin in range(3):
                self.assert_like_a_run(six, setting, begin)
        # It comes to each end from one setting or another.
        self.assertEqual({where_at(six, [one, two, three], begin, 99) for begin in range(3) for one in range(5)
                          for two in range(4) for three in range(5)}, {-1, -2, -3, -4, -5, -6})

    def test_nets_without_rings(self):
        tree = Net(3, [[1, 2], [-1, 3], [3, -2], [-3, -3]])
        for setting in ([0, 0, 0, 0], [1, 0, 0, 1], [0, 1, 1, 0]):
            for begin in range(4):
                self.assert_like_a_run(tree, setting, begin)


class Row:
    """Points in a row, each leading on by its last exit, and to the first one by all others; told by closed forms."""

    def __init__(self, sizes):
        self.sizes = sizes
        last = len(sizes) - 1
        self.net = Net(1, [[0] * (size - 1) + [at + 1 if at < last else -1] for at, size in enumerate(sizes)])
        self.setting = [0] * len(sizes)

    def product(self, first, behind):
        told = 1
        for size in self.sizes[first:behind]:
            told *= size
        return told

    def left(self, point):
        """How often the point is left in all."""
        return self.product(point, len(self.sizes))

    def steps(self):
        return sum(self.left(point) for point in range(len(self.sizes)))

    def beyond(self, point, many):
        """How many steps begin at points behind this one, if it was gone on from so many times."""
        return sum(many // self.product(point + 1, later) for later in range(point + 1, len(self.sizes)))

    def leaving(self, point, many):
        """By how many steps the point has been left so many times."""
        if point == 0:
            return many + self.beyond(0, (many - 1) // self.sizes[0])
        ahead = point - 1
        once = sum(self.product(first, point) for first in range(point))
        return many * once + self.beyond(ahead, many - 1) + 1

    def time(self, point, spot, many):
        return self.leaving(point, (many - 1) * self.sizes[point] + spot + 1)


class LongRuns(unittest.TestCase):

    def test_the_closed_forms(self):
        row = Row([2, 3, 1, 2])
        _, _, tracks = plain_run(row.net.exits(), row.setting, 0, 10 ** 5)
        self.assertEqual(len(tracks), row.steps())
        for point, size in enumerate(row.sizes):
            for spot in range(size):
                track = track_at(row.net, point, spot)
                times = [at + 1 for at, one in enumerate(tracks) if one == track]
                self.assertEqual([row.time(point, spot, many + 1) for many in range(len(times))], times)
                self.assertEqual(len(times) * size, row.left(point))

    def test_twenty_points_in_a_row(self):
        row = Row([2] * 20)
        self.assertEqual([row.steps(), passing_time(row.net, row.setting, 0, 39, 1)], [2097150, 2097150])
        self.assertEqual(where_at(row.net, row.setting, 0, 2097149), 19)

    def test_rows(self):
        chance = random.Random(721)
        # The last two of these have sixty tracks; the last one goes more than five thousand million steps.
        for sizes in ([2] * 24, [1, 6] * 5, [3, 2] * 12, [3] * 20):
            row = Row(sizes)
            net, setting, last = row.net, row.setting, len(sizes) - 1
            self.assertEqual(last_passed(net, setting, 0, net.many - 1), row.steps())
            for _ in range(12):
                point = chance.randrange(len(sizes))
                spot = chance.randrange(sizes[point])
                track = track_at(net, point, spot)
                whole = row.left(point) // sizes[point]
                many = chance.choice([1, 2, whole // 2 + 1, whole, chance.randint(1, whole)])
                if many > whole:
                    continue
                time = row.time(point, spot, many)
                self.assertEqual(passed(net, setting, 0, track), whole)
                self.assertEqual(passing_time(net, setting, 0, track, many), time)
                self.assertEqual(last_passed(net, setting, 0, track), row.time(point, spot, whole))
                self.assertIsNone(passing_time(net, setting, 0, track, whole + 1))
                self.assertEqual(track_gone_at(net, setting, 0, time - 1), track)
                self.assertEqual([where_at(net, setting, 0, time - 1), where_at(net, setting, 0, time)],
                                 [point, target_of(net, track)])
                self.assertEqual([passed_within(net, setting, 0, track, steps) for steps in (time - 1, time)], [many - 1, many])
            self.assertEqual([where_at(net, setting, 0, row.steps() + more) for more in (-1, 0, 1)], [last, -1, -1])
            self.assertEqual([track_gone_at(net, setting, 0, row.steps() + more) for more in (-1, 0, 1)],
                             [net.many - 1, None, None])
            self.assertEqual(where_at(net, setting, 0, MOST), -1)
        self.assertGreater(row.steps(), 5 * 10 ** 9)

    def test_runs_of_many_thousand_steps(self):
        chance = random.Random(722)
        some = 0
        for sizes in ([2, 3] * 5, [4, 2, 3] * 3, [2] * 15):
            net = Row(sizes).net
            # The targets of each point in another sequence, another beginning, and some points lead elsewhere.
            rows = [chance.sample(row, len(row)) for row in net.exits()]
            for point in chance.sample(range(1, net.points), 3):
                if 0 in rows[point]:
                    rows[point][rows[point].index(0)] = chance.randrange(point)
            net = Net(1, rows)
            setting = [chance.randrange(len(row)) for row in rows]
            _, _, tracks = plain_run(rows, setting, 1, 10 ** 6)
            for _ in range(15):
                step = chance.randrange(len(tracks))
                track, steps = tracks[step], step + 1
                many = tracks[:steps].count(track)
                self.assertEqual(track_gone_at(net, setting, 1, step), track)
                self.assertEqual(where_at(net, setting, 1, steps), target_of(net, track))
                self.assertEqual(passed_within(net, setting, 1, track, steps), many)
                self.assertEqual(passing_time(net, setting, 1, track, many), steps)
                self.assertEqual(passed(net, setting, 1, track), tracks.count(track))
            some += len(tracks) > 1000
        self.assertEqual(some, 3)

    def test_big_nets(self):
        for seed in range(40):
            net, setting = big_net(seed, tracks=60 if seed % 2 else 36, reach=2 if seed % 4 else None)
            if len(good_cut(net)) <= 4:
                _, _, tracks = plain_run(net.exits(), setting, 3, 10 ** 5)
                steps = len(tracks) // 2
                self.assertEqual(track_gone_at(net, setting, 3, steps), tracks[steps])
                self.assertEqual(where_at(net, setting, 3, steps + 1), target_of(net, tracks[steps]))
                self.assertEqual(passing_time(net, setting, 3, tracks[0], 1), 1)

    def test_lost_trains_have_none(self):
        for lost in (1, 6):
            net = trapped(2, 24, lost)
            self.assertRaises(NotLeading, where_at, net, [0] * 24, 0, 1)


if __name__ == "__main__":
    unittest.main()
