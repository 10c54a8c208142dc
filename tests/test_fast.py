"""The fast way to least flows [4b]."""

import itertools
import random
import unittest

from flippedpoints.cuts import fewest_cut, good_cut, is_cut
from flippedpoints.errors import InvalidLot, InvalidNet, InvalidPoint, InvalidSetting, InvalidStarts
from flippedpoints.errors import NotCut, NotLeading, TooMany
from flippedpoints.fast import fast_flow, fast_flow_by, long_run, sent
from flippedpoints.least import least_flow
from flippedpoints.nets import Net
from tests.support import HUGE, PAIR, Call, CallTests
from tests.support import big_net, far_come, far_is_least, one_at, plain_run, plain_visits, random_nets
from tests.support import wrong_indexes, wrong_lots, wrong_nets, wrong_numbers, wrong_settings

NETS = (InvalidNet, wrong_nets())
SETTINGS = (InvalidSetting, wrong_settings(PAIR, [0, 1]))
STARTS = (InvalidStarts, wrong_numbers([3, 1]))
LOST = Net(1, [[0, 1], [1]])
MOST = HUGE - 1
# A line of points, each leading back to the first one: its run doubles with each point.
LINE = Net(1, [[0, at + 1] for at in range(23)] + [[0, -1]])
# Twenty points with three exits each: one train goes more than a thousand million steps.
SLOW = Net(1, [[0, 0, at + 1] for at in range(19)] + [[0, 0, -1]])


def looped(points, many):
    """A row of points of which so many have a track to themselves; they are in each cut."""
    return Net(1, [[at, at - 1] if at < many else [at - 1] for at in range(points)])


def pairs(many):
    """So many rings of two points each, of which one leads to the next one, the last one back as well."""
    rows = []
    for at in range(0, 2 * many, 2):
        rows += [[at + 1, at - 1], [at]]
    rows[0].append(2 * many - 1)
    return Net(1, rows)


def full(points):
    """Each point leads to each other one, and to the end: all but one are in each cut."""
    return Net(1, [[other for other in range(points) if other != point] + [-1] for point in range(points)])


def in_lines(lines, length):
    """Lines of points, each leading back to the line's begin; from the end of one to the next one, and from the last to all."""
    rows = []
    for first in range(0, lines * length, length):
        rows += [[first, at + 1] for at in range(first, first + length)]
        rows[first][0] = first + 1
    rows[-1] = [at * length for at in range(min(lines, 5))] + [-1]
    return Net(1, rows)


class FastCalls(CallTests, unittest.TestCase):

    def calls(self):
        own = {"net": PAIR, "setting": [0, 1], "starts": [3, 1]}
        wrong = {"net": NETS, "setting": SETTINGS, "starts": STARTS}
        return [
            Call(fast_flow, own, wrong),
            Call(fast_flow_by, {**own, "lot": [0]}, {**wrong, "lot": (InvalidLot, wrong_lots(2))}),
            Call(long_run, {"net": PAIR, "setting": [0, 1], "begin": 0}, {
                "net": NETS, "setting": SETTINGS, "begin": (InvalidPoint, wrong_indexes(2) + [-2])}),
            Call(sent, own, wrong),
        ]

    def assert_raises(self, error, function, *arguments):
        with self.assertRaises(error) as caught:
            function(*arguments)
        self.assertIs(caught.exception.__class__, error)
        if error is TooMany:
            self.assertEqual([caught.exception.what, caught.exception.limit], ["cut", 4])

    def test_what_comes_behind_the_parameters(self):
        self.assert_raises(InvalidLot, fast_flow_by, LOST, [0, 0], [1, 0], [1, 0])
        self.assert_raises(InvalidStarts, fast_flow_by, LOST, [0, 0], [1, -1], [1, 0])
        self.assert_raises(NotLeading, fast_flow_by, LOST, [0, 0], [1, 0], [])
        self.assert_raises(NotLeading, fast_flow_by, LOST, [0, 0], [1, 0], [0, 1])
        self.assert_raises(InvalidStarts, fast_flow, LOST, [0, 0], [1])
        self.assert_raises(InvalidStarts, sent, LOST, [0, 0], [1])
        self.assert_raises(InvalidPoint, long_run, LOST, [0, 0], 2)
        for net in (LOST, Net(0, [[0], [1]]), Net(1, [[at] for at in range(9)]), Net(1, [[-1]] + [[at, 0, at] for at in range(7)] + [[8]])):
            setting, none = [0] * net.points, [0] * net.points
            self.assert_raises(NotLeading, fast_flow, net, setting, none)
            self.assert_raises(NotLeading, sent, net, setting, none)
            self.assert_raises(NotLeading, long_run, net, setting, 0)
            self.assert_raises(NotLeading, fast_flow_by, net, setting, none, [])

    def test_no_cut(self):
        three = Net(1, [[1, 2], [2, -1], [0, 1]])
        for lot in ([], [0], [1], (0,)):
            self.assert_raises(NotCut, fast_flow_by, three, [0, 0, 0], [0, 0, 0], lot)
        self.assertEqual(fast_flow_by(three, [0, 0, 0], [0, 0, 0], (2,)), [0, 0, 0])
        five = looped(5, 5)
        for lot in itertools.combinations(range(5), 4):
            self.assert_raises(NotCut, fast_flow_by, five, [0] * 5, [1] * 5, lot)


class SmallNets(unittest.TestCase):

    def some(self, seed, many, **kinds):
        chance = random.Random(seed)
        for net, setting in random_nets(seed, many, leading=True, **kinds):
            yield net, setting, [chance.randint(0, 5) for _ in range(net.points)]

    def test_it_is_what_trains_visit(self):
        for net, setting, starts in self.some(411, 300, points=6, exits=4, ends=6):
            visits, marks = plain_visits(net.exits(), setting, starts, 100000)
            try:
                self.assertEqual(fast_flow(net, setting, starts), visits)
                self.assertEqual(fast_flow(net, tuple(setting), tuple(starts)), visits)
                self.assertEqual(fast_flow(net, setting, starts).__class__, list)
                told = sent(net, setting, starts)
                self.assertEqual(told, (list(marks), far_come(net.ends, net.exits(), setting, visits)))
                self.assertEqual([told.__class__, told[0].__class__, told[1].__class__], [tuple, list, list])
                self.assertEqual(sent(net, tuple(setting), tuple(starts)), told)
                self.assertEqual(sum(told[1]), sum(starts))
            except TooMany:
                self.assertGreater(len(fewest_cut(net)), 4)

    def test_by_each_cut(self):
        for net, setting, starts in self.some(412, 120, points=5, exits=3):
            visits, _ = plain_visits(net.exits(), setting, starts, 100000)
            for many in range(net.points + 1):
                for lot in itertools.combinations(range(net.points), many):
                    if is_cut(net, lot):
                        self.assertEqual(fast_flow_by(net, setting, starts, lot), visits)
                        self.assertEqual(fast_flow_by(net, tuple(setting), tuple(starts), list(lot)), visits)
                    else:
                        self.assertRaises(NotCut, fast_flow_by, net, setting, starts, lot)

    def test_one_train(self):
        for net, setting, _ in self.some(413, 150, points=6, exits=3, ends=6):
            if len(fewest_cut(net)) > 4:
                continue
            for begin in range(net.points):
                where, _, tracks = plain_run(net.exits(), setting, begin, 10 ** 6)
                visits, _ = plain_visits(net.exits(), setting, one_at(net.points, begin), 10 ** 6)
                told = long_run(net, setting, begin)
                self.assertEqual(told, (-1 - where, len(tracks), visits))
                self.assertEqual([told.__class__, told[2].__class__], [tuple, list])
                self.assertEqual(long_run(net, tuple(setting), begin), told)

    def test_all_settings_of_a_net(self):
        net = Net(2, [[0, 1, 2], [1, -1, 0, 1], [2, 2, -2]])
        for setting in itertools.product(range(3), range(4), range(3)):
            for starts in ([1, 0, 0], [0, 2, 1], [7, 7, 7], [0, 0, 0]):
                visits, marks = plain_visits(net.exits(), setting, starts, 10 ** 6)
                self.assertEqual(fast_flow(net, setting, starts), visits)
                self.assertEqual(sent(net, setting, starts)[0], list(marks))

    def test_starts_of_nothing(self):
        for net, setting, _ in self.some(414, 40, points=6, ends=3):
            none = [0] * net.points
            if len(fewest_cut(net)) <= 4:
                self.assertEqual(fast_flow(net, setting, none), none)
                self.assertEqual(sent(net, setting, none), (setting, [0] * net.ends))
            self.assertEqual(fast_flow_by(net, setting, none, list(range(net.points))), none)

    def test_nets_without_a_ring(self):
        net = Net(2, [[1, 2, -1], [2, -2], [-1, -2]])
        for starts in ([1, 0, 0], [10 ** 20, 3, 0], [MOST] * 3):
            flow = fast_flow(net, [1, 0, 1], starts)
            self.assertTrue(far_is_least(net.exits(), [1, 0, 1], starts, flow))
            for lot in ([], [1], [0, 1, 2]):
                self.assertEqual(fast_flow_by(net, [1, 0, 1], starts, lot), flow)

    def test_the_passed_lists_stay(self):
        setting, starts, lot = [0, 0], [1, 0], [0, 1]
        for told in (fast_flow(PAIR, setting, starts), fast_flow_by(PAIR, setting, starts, lot), sent(PAIR, setting, [0, 0])[0]):
            told.append(0)
        self.assertEqual([setting, starts, lot], [[0, 0], [1, 0], [0, 1]])


class CutSizes(unittest.TestCase):

    def assert_too_many(self, net):
        setting, none = [0] * net.points, [0] * net.points
        for starts in (none, one_at(net.points, 0), [MOST] * net.points):
            for function in (fast_flow, sent):
                with self.assertRaises(TooMany) as caught:
                    function(net, setting, starts)
                self.assertEqual([caught.exception.what, caught.exception.limit], ["cut", 4])
        with self.assertRaises(TooMany) as caught:
            long_run(net, setting, net.points - 1)
        self.assertEqual([caught.exception.what, caught.exception.limit], ["cut", 4])

    def assert_told(self, net, by):
        """The flows are told by this function of a setting and starts."""
        chance = random.Random(421)
        rows = net.exits()
        for most in (1, 3, 10 ** 6, MOST):
            setting = [chance.randrange(len(row)) for row in rows]
            starts = [chance.randint(0, most) for _ in rows]
            visits = by(setting, starts)
            self.assertTrue(far_is_least(rows, setting, starts, visits))
            if most < 4:
                plain = plain_visits(rows, setting, starts, 20000)
                self.assertIn(plain, (None, (visits, plain and plain[1])))

    def some(self):
        """Pairs of nets: each cut of the one has just four points, each one of the other just five."""
        yield looped(4, 4), looped(5, 5)
        yield looped(24, 4), looped(24, 5)
        yield pairs(4), pairs(5)
        yield full(5), full(6)
        yield in_lines(4, 6), in_lines(5, 4)

    def test_just_four(self):
        for net, _ in self.some():
            lot = fewest_cut(net)
            self.assertEqual(len(lot), 4)
            self.assert_told(net, lambda setting, starts: fast_flow(net, setting, starts))
            self.assert_told(net, lambda setting, starts: fast_flow_by(net, setting, starts, lot))
            setting = [0] * net.points
            end, steps, visits = long_run(net, setting, 0)
            self.assertEqual([end, steps], [0, sum(visits)])
            self.assertEqual(sent(net, setting, one_at(net.points, 0))[1], [1])

    def test_just_five(self):
        for _, net in self.some():
            lot = fewest_cut(net)
            self.assertEqual(len(lot), 5)
            self.assert_too_many(net)
            self.assert_told(net, lambda setting, starts: fast_flow_by(net, setting, starts, lot))
            self.assert_told(net, lambda setting, starts: fast_flow_by(net, setting, starts, range_of(net)))
            self.assert_told(net, lambda setting, starts: fast_flow_by(net, setting, starts, tuple(good_cut(net))))

    def test_many_more(self):
        for net in (looped(24, 24), pairs(10), in_lines(8, 3), Net(1, [[at, 0, at - 1] for at in range(20)])):
            self.assert_too_many(net)
            self.assert_told(net, lambda setting, starts: fast_flow_by(net, setting, starts, range_of(net)))

    def test_four_points_that_are_in_no_good_place(self):
        # The least cut has only points that come late, in rings that cross each other.
        net = Net(1, [[20 + at // 5] for at in range(20)] + [list(range(0, 20, 4)), list(range(1, 20, 4)),
                                                             list(range(2, 20, 4)), list(range(3, 20, 4)) + [-1]])
        self.assertEqual(len(fewest_cut(net)), 4)
        self.assert_told(net, lambda setting, starts: fast_flow(net, setting, starts))
        self.assert_told(net, lambda setting, starts: fast_flow_by(net, setting, starts, range_of(net)))


def range_of(net):
    return list(range(net.points))


class LongRuns(unittest.TestCase):

    def test_a_line(self):
        # Each point is gone through twice as often as the next one.
        visits = [2 ** (24 - at) for at in range(24)]
        self.assertEqual(long_run(LINE, [0] * 24, 0), (0, 2 ** 25 - 2, visits))
        self.assertEqual(long_run(LINE, [1] * 24, 0), (0, 24, [1] * 24))
        self.assertEqual(sent(LINE, [0] * 24, one_at(24, 0)), ([0] * 24, [1]))
        for many in (10 ** 6, 10 ** 18, MOST):
            self.assertEqual(fast_flow(LINE, [0] * 24, [many] + [0] * 23), [many * times for times in visits])
            self.assertGreater(sum(fast_flow(LINE, [0] * 24, [many] + [0] * 23)), 10 ** 12)

    def test_three_exits(self):
        end, steps, visits = long_run(SLOW, [0] * 20, 0)
        self.assertEqual([end, steps, visits], [0, (3 ** 21 - 3) // 2, [3 ** (20 - at) for at in range(20)]])
        self.assertEqual(sent(SLOW, [0] * 20, [1000] + [0] * 19), ([0] * 20, [1000]))
        self.assertEqual(sum(fast_flow(SLOW, [0] * 20, [1000] + [0] * 19)), 500 * (3 ** 21 - 3))
        for setting in ([1] * 20, [2, 0] * 10, [0, 1, 2, 1] * 5):
            visits = fast_flow(SLOW, setting, [0, 1] * 10)
            self.assertTrue(far_is_least(SLOW.exits(), setting, [0, 1] * 10, visits))

    def test_against_rounds_where_these_are_few(self):
        chance = random.Random(431)
        for seed in range(40):
            net, setting = big_net(seed, points=24, tracks=40, ends=4)
            starts = [chance.choice([0, 1, 10 ** 29]) for _ in range(24)]
            if len(good_cut(net)) <= 4:
                self.assertEqual(fast_flow(net, setting, starts), least_flow(net, setting, starts))

    def test_by_its_ring(self):
        chance = random.Random(432)
        told = 0
        for seed in range(120):
            net, setting = big_net(seed, tracks=chance.choice([30, 36, 48, 60]), ends=chance.randint(1, 6),
                                   reach=chance.choice([None, 2, 4]))
            starts = [chance.choice([0, 1, chance.randrange(HUGE), MOST]) for _ in range(24)]
            visits = fast_flow_by(net, setting, starts, good_cut(net))
            self.assertTrue(far_is_least(net.exits(), setting, starts, visits))
            self.assertEqual(fast_flow_by(net, setting, starts, range_of(net)), visits)
            if len(good_cut(net)) <= 4:
                told += 1
                self.assertEqual(fast_flow(net, setting, starts), visits)
                later, come = sent(net, setting, starts)
                self.assertEqual(come, far_come(net.ends, net.exits(), setting, visits))
                self.assertEqual(sum(come), sum(starts))
                self.assertEqual(later, [(spot + many) % len(row) for spot, many, row in zip(setting, visits, net.exits())])
        self.assertGreater(told, 20)

    def test_four_cut_points_one_within_the_other(self):
        net = in_lines(4, 6)
        chance = random.Random(433)
        for most in (2, 10 ** 9, MOST):
            for _ in range(4):
                setting = [chance.randrange(len(row)) for row in net.exits()]
                starts = [chance.randint(0, most) for _ in range(24)]
                visits = fast_flow(net, setting, starts)
                self.assertTrue(far_is_least(net.exits(), setting, starts, visits))
                self.assertEqual(fast_flow_by(net, setting, starts, [0, 6, 12, 18]), visits)

    def test_sixty_tracks(self):
        back = [[0, 1, 2, 3], [3, 0, 2], [1, 3, 0], [2, 1, 0]]
        net = Net(1, [[4, 5]] * 4 + [back[at % 4][:at % 2 + 1] + [at + 1] for at in range(4, 23)] + [[0, 1, 2, -1]])
        self.assertTrue(50 <= net.many <= 60 and is_cut(net, [0, 1, 2, 3]))
        chance = random.Random(434)
        for _ in range(6):
            setting = [chance.randrange(len(row)) for row in net.exits()]
            for starts in (one_at(24, 3), [MOST] * 24, [chance.randrange(HUGE) for _ in range(24)]):
                visits = fast_flow(net, setting, starts)
                self.assertTrue(far_is_least(net.exits(), setting, starts, visits))

    def test_more_than_thirty_digits(self):
        self.assertEqual(fast_flow(PAIR, [0, 0], [MOST, MOST]), [6 * MOST, 4 * MOST])
        self.assertEqual(sent(PAIR, [0, 0], [MOST, MOST]), ([0, 0], [2 * MOST]))


class ComingBack(unittest.TestCase):
    """What [4b2] says of BACK, by nets in which the tracks to a point of the cut lead to a new end instead."""

    def back(self, net, setting, starts, told, point, many):
        """How often trains begin at the point or come to it, if it is left so often and the others as is told."""
        barred = [point, *told]
        rows = [[-2 - net.ends if goal in told else -1 - net.ends if goal == point else goal for goal in row]
                for row in net.exits()]
        begins = [0 if at in barred else start for at, start in enumerate(starts)]
        begins[point] = many
        for other, times in told.items():
            begins[other] = times
        _, come = sent(Net(net.ends + 2, rows), setting, begins)
        return starts[point] + come[net.ends]

    def test_the_least_that_fits(self):
        chance = random.Random(441)
        for net, setting in random_nets(441, 60, points=5, exits=3, leading=True):
            starts = [chance.randint(0, 3) for _ in range(net.points)]
            lot = fewest_cut(net)
            if not 1 <= len(lot) <= 4:
                continue
            visits = fast_flow(net, setting, starts)
            for at, point in enumerate(lot):
                told = {other: visits[other] for other in lot[:at]}
                backs = [self.back(net, setting, starts, told, point, many) for many in range(visits[point] + 4)]
                self.assertTrue(all(later - now in (0, 1) for now, later in zip(backs, backs[1:])))
                self.assertEqual([many for many, back in enumerate(backs) if back <= many][0], visits[point])
                self.assertEqual(backs[visits[point]], visits[point])


if __name__ == "__main__":
    unittest.main()
