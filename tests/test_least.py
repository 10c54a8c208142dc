"""Least flows: by rounds, by its ring, reduced, between flows [3b]."""

import random
import unittest

from flippedpoints.crowds import crowd_of, visits_by
from flippedpoints.errors import InvalidMost, InvalidNet, InvalidSetting, InvalidStarts, InvalidVisits
from flippedpoints.errors import NotFlow, NotLeading, TooMany
from flippedpoints.least import flows_below, is_least_flow, joined, least_flow, met, reduced
from flippedpoints.machine import run_visits
from flippedpoints.nets import Net
from flippedpoints.visits import arriving, come, has_ring, is_flow
from tests.support import HUGE, INTEGERS, LISTS, PAIR, STRANGE, Call, CallTests
from tests.support import plain_arriving, plain_flows, plain_visits, random_nets
from tests.support import wrong_indexes, wrong_nets, wrong_numbers, wrong_settings

NETS = (InvalidNet, wrong_nets())
SETTINGS = (InvalidSetting, wrong_settings(PAIR, [0, 0]))
STARTS = (InvalidStarts, wrong_numbers([1, 0]))
VISITS = (InvalidVisits, wrong_numbers([5, 2]))
OTHERS = (InvalidVisits, wrong_numbers([6, 3]))
LOST = Net(1, [[0, 1], [1]])
# By these settings a train from the point 0 of a line takes just 20,000 steps and one more.
LINE = Net(1, [[0, at + 1] for at in range(13)] + [[0, -1]])
ENOUGH = [1, 1, 0, 0, 1, 1, 1, 1, 0, 0, 0, 1, 1, 0]
ONE_MORE = [0] + ENOUGH[1:]


class LeastCalls(CallTests, unittest.TestCase):

    def calls(self):
        own = {"net": PAIR, "setting": [0, 0], "starts": [1, 0]}
        wrong = {"net": NETS, "setting": SETTINGS, "starts": STARTS}
        two = {**own, "visits": [5, 2], "others": [6, 3]}
        wrong_two = {**wrong, "visits": VISITS, "others": OTHERS}
        return [
            Call(least_flow, own, wrong),
            Call(flows_below, {**own, "most": 7}, {**wrong, "most": (InvalidMost, wrong_indexes(13) + [100000])}),
            Call(is_least_flow, {**own, "value": [4, 2]}, wrong, asked=True),
            Call(reduced, {**own, "visits": [5, 2]}, {**wrong, "visits": VISITS}),
            Call(met, two, wrong_two),
            Call(joined, two, wrong_two),
        ]

    def test_what_comes_behind_the_parameters(self):
        for function in (met, joined):
            with self.assertRaises(InvalidVisits):
                function(LOST, [0, 0], [0, 0], [5, 5], [5, -5])
            with self.assertRaises(InvalidVisits) as caught:
                function(LOST, [0, 0], [0, 0], [5, 5, 5], [5, -5])
            self.assertEqual(caught.exception.value, [5, 5, 5])
            for one, two in (([9, 9], [0, 0]), ([0, 0], [0, 7]), ([0, 0], [0, 0])):
                with self.assertRaises(NotLeading):
                    function(LOST, [0, 0], [0, 0], one, two)
            for one, two in (([4, 3], [4, 2]), ([4, 2], [4, 3]), ([0, 0], [1, 1])):
                with self.assertRaises(NotFlow):
                    function(PAIR, [0, 0], [1, 0], one, two)
        with self.assertRaises(NotLeading):
            least_flow(LOST, [0, 0], [0, 0])
        with self.assertRaises(InvalidStarts):
            least_flow(LOST, [0, 0], [0, True])


class LeastFlowTests(unittest.TestCase):

    def test_it_is_what_trains_visit(self):
        chance = random.Random(51)
        for net, setting in random_nets(51, 200, points=6, exits=4, ends=6, leading=True):
            starts = [chance.randint(0, 4) for _ in range(net.points)]
            visits, _ = plain_visits(net.exits(), setting, starts, 100000)
            self.assertEqual(least_flow(net, setting, starts), visits)
            self.assertEqual(least_flow(net, tuple(setting), tuple(starts)), visits)
            self.assertEqual(visits_by(net, crowd_of(net, setting, starts), "rounds", 100000), visits)
            self.assertIs(is_least_flow(net, setting, starts, visits), True)

    def test_it_is_the_run_of_one_train(self):
        for net, setting in random_nets(52, 100, points=6, leading=True):
            for begin in range(net.points):
                starts = [int(point == begin) for point in range(net.points)]
                self.assertEqual(least_flow(net, setting, starts), run_visits(net, setting, begin, 100000))

    def test_it_is_the_least_of_all_flows(self):
        found = 0
        for net, setting in random_nets(53, 150, points=3, leading=True):
            for starts in ([0] * net.points, [1] * net.points):
                flows = plain_flows(net.exits(), setting, starts, 6)
                least = least_flow(net, setting, starts)
                found += least in flows
                for flow in flows:
                    self.assertTrue(all(one <= two for one, two in zip(least, flow)))
                    self.assertIs(is_least_flow(net, setting, starts, flow), flow == least)
                    self.assertIs(has_ring(net, setting, flow), flow != least)
                    self.assertEqual(come(net, setting, flow), come(net, setting, least))
        self.assertGreater(found, 100)

    def test_starts_of_nothing(self):
        self.assertEqual(least_flow(PAIR, [1, 0], (0, 0)), [0, 0])

    def test_thirty_digits(self):
        most = HUGE - 1
        self.assertEqual(least_flow(PAIR, [0, 0], [10 ** 29, 0]), [4 * 10 ** 29, 2 * 10 ** 29])
        # A flow of thirty-one digits is told, but is no visits.
        flow = least_flow(PAIR, [0, 0], [most, most])
        self.assertEqual(flow, [6 * most, 4 * most])
        self.assertIs(is_least_flow(PAIR, [0, 0], [most, most], flow), False)
        with self.assertRaises(InvalidVisits):
            reduced(PAIR, [0, 0], [most, most], flow)
        self.assertIs(is_least_flow(PAIR, [0, 0], [10 ** 29, 0], [4 * 10 ** 29, 2 * 10 ** 29]), True)

    def test_many_points(self):
        net = Net(6, [[at, at + 1] for at in range(12)] + [[0, 13, -1]] + [[at + 1, -2] for at in range(13, 23)] + [[-6]])
        flow = least_flow(net, [0] * 24, [1] * 24)
        self.assertEqual(arriving(net, [0] * 24, [1] * 24, flow), flow)
        self.assertIs(has_ring(net, [0] * 24, flow), False)

    def test_rounds_bound(self):
        starts = [1] + [0] * 13
        flow = least_flow(LINE, ENOUGH, starts)
        self.assertEqual([sum(flow), flow], [20000, run_visits(LINE, ENOUGH, 0, 100000)])
        self.assertEqual(sum(run_visits(LINE, ONE_MORE, 0, 100000)), 20001)
        with self.assertRaises(TooMany) as caught:
            least_flow(LINE, ONE_MORE, starts)
        self.assertEqual([caught.exception.what, caught.exception.limit], ["rounds", 20000])
        self.assertIs(is_least_flow(LINE, ONE_MORE, starts, run_visits(LINE, ONE_MORE, 0, 100000)), True)


class FlowsBelowTests(unittest.TestCase):

    def test_all_flows(self):
        for net, setting in random_nets(54, 150, points=3):
            for starts in ([0] * net.points, [1] * net.points, [at for at in range(net.points)]):
                for most in (0, 1, 4):
                    right = plain_flows(net.exits(), setting, starts, most)
                    self.assertEqual(flows_below(net, tuple(setting), tuple(starts), most), right)
                    self.assertEqual(right, sorted(right))

    def test_bounds(self):
        self.assertEqual(flows_below(Net(0, [[0]]), [0], [0], 12), [[at] for at in range(13)])
        self.assertEqual(flows_below(Net(0, [[0]]), [0], [1], 12), [])
        self.assertEqual(flows_below(Net(0, [[0]] * 24), [0] * 24, [0] * 24, 0), [[0] * 24])
        self.assertEqual(flows_below(Net(1, [[-1]] * 4), [0] * 4, [12, 0, 7, 1], 12), [[12, 0, 7, 1]])
        self.assertEqual(flows_below(Net(1, [[-1]] * 15), [0] * 15, [1] * 15, 1), [[1] * 15])
        for points, most in ((16, 1), (24, 1), (5, 12), (24, 12), (10, 2), (6, 6)):
            with self.assertRaises(TooMany) as caught:
                flows_below(Net(1, [[-1]] * points), [0] * points, [1] * points, most)
            self.assertEqual([caught.exception.what, caught.exception.limit], ["tries", 50000])
        # 46,656 tries are few enough.
        self.assertEqual(flows_below(Net(1, [[-1]] * 6), [0] * 6, [5] * 6, 5), [[5] * 6])


class LeastByRingTests(unittest.TestCase):

    def test_of_whatever_net(self):
        for net, setting in random_nets(55, 150, points=3, leading=False):
            for starts in ([0] * net.points, [1] * net.points):
                flows = plain_flows(net.exits(), setting, starts, 5)
                for flow in flows:
                    right = all(one <= two for other in flows for one, two in zip(flow, other))
                    self.assertIs(is_least_flow(net, setting, starts, flow), right)
                    self.assertIs(is_least_flow(net, setting, tuple(starts), tuple(flow)), right)

    def test_any_value(self):
        values = STRANGE + INTEGERS + LISTS + wrong_numbers([4, 2]) + wrong_numbers((4, 2)) + [PAIR, [5, 2], [6, 3], [4, 3]]
        for value in values:
            self.assertIs(is_least_flow(PAIR, [0, 0], [1, 0], value), False)


class ReducedTests(unittest.TestCase):

    def test_reduced(self):
        for seed, leading in ((56, True), (57, False)):
            for net, setting in random_nets(seed, 100, points=3, leading=leading):
                for starts in ([0] * net.points, [1] * net.points):
                    flows = plain_flows(net.exits(), setting, starts, 5)
                    for flow in flows:
                        self.assertEqual(reduced(net, setting, starts, flow), flows[0])
                        self.assertEqual(reduced(net, tuple(setting), tuple(starts), tuple(flow)), flows[0])

    def test_flow_passed_is_not_the_one_returned(self):
        flow = [4, 2]
        told = reduced(PAIR, [0, 0], [1, 0], flow)
        told.append(0)
        self.assertEqual(flow, [4, 2])

    def test_no_flow(self):
        for visits in ([4, 3], [0, 0], [1, 0], [HUGE - 1, HUGE - 1]):
            with self.assertRaises(NotFlow):
                reduced(PAIR, [0, 0], [1, 0], visits)

    def test_bound(self):
        one, three = Net(0, [[0]]), Net(1, [[1], [2], [0], [-1], [-1, 4]])
        self.assertEqual(reduced(one, [0], [0], [20000]), [0])
        self.assertEqual(reduced(three, [0] * 5, [0, 0, 0, 2, 3], [6666] * 3 + [2, 6]), [0, 0, 0, 2, 5])
        self.assertEqual(reduced(three, [0] * 5, [0, 0, 0, HUGE - 1, 0], [6666] * 3 + [HUGE - 1, 0]), [0] * 3 + [HUGE - 1, 0])
        for net, starts, visits in ((one, [0], [20001]), (one, [0], [HUGE - 1]), (one, [0], [10 ** 6]),
                                    (three, [0] * 5, [6667] * 3 + [0, 0])):
            with self.assertRaises(TooMany) as caught:
                reduced(net, [0] * net.points, starts, visits)
            self.assertEqual([caught.exception.what, caught.exception.limit], ["visits", 20000])

    def test_no_flow_comes_ahead_of_too_many(self):
        net = Net(0, [[0], [0]])
        with self.assertRaises(NotFlow):
            reduced(net, [0, 0], [0, 0], [50000, 1])
        with self.assertRaises(TooMany):
            reduced(net, [0, 0], [0, 0], [50000, 0])


class BetweenTests(unittest.TestCase):

    def test_met_and_joined(self):
        unlike = 0
        for net, setting in random_nets(58, 400, points=4, leading=True):
            for starts in ([0] * net.points, [1] * net.points):
                flows = plain_flows(net.exits(), setting, starts, 4)
                for one in flows:
                    for two in flows:
                        below = [flow for flow in flows if self.is_below(flow, one) and self.is_below(flow, two)]
                        above = [flow for flow in flows if self.is_below(one, flow) and self.is_below(two, flow)]
                        unlike += one not in below and two not in below
                        told = met(net, setting, starts, one, two)
                        self.assertIn(told, below)
                        self.assertTrue(all(self.is_below(flow, told) for flow in below))
                        told = joined(net, tuple(setting), tuple(starts), tuple(one), tuple(two))
                        self.assertTrue(is_flow(net, setting, starts, told))
                        self.assertTrue(self.is_below(one, told) and self.is_below(two, told))
                        self.assertTrue(all(self.is_below(told, flow) for flow in above))
        self.assertGreater(unlike, 20)

    def is_below(self, one, two):
        return all(few <= many for few, many in zip(one, two))

    def test_two_that_lie_apart(self):
        net = Net(1, [[0, -1], [1, -1]])
        self.assertEqual(met(net, [0, 0], [0, 0], [1, 0], [0, 1]), [0, 0])
        self.assertEqual(joined(net, [0, 0], [0, 0], [1, 0], (0, 1)), [1, 1])
        self.assertEqual(met(net, [0, 0], [5, 7], [11, 14], [10, 15]), [10, 14])
        self.assertEqual(joined(net, [0, 0], [5, 7], [11, 14], [10, 15]), [11, 15])

    def test_returned_lists_are_not_those_passed(self):
        flow = [4, 2]
        for function in (met, joined):
            told = function(PAIR, [0, 0], [1, 0], flow, flow)
            self.assertEqual(told, [4, 2])
            told.append(0)
            self.assertEqual(flow, [4, 2])

    def test_thirty_digits(self):
        net = Net(1, [[0, -1]])
        starts = [5 * 10 ** 29 - 1]
        self.assertEqual(joined(net, [0], starts, [HUGE - 2], [HUGE - 1]), [HUGE - 1])
        self.assertEqual(met(net, [0], starts, [HUGE - 2], [HUGE - 1]), [HUGE - 2])
        with self.assertRaises(InvalidVisits):
            met(net, [0], [5 * 10 ** 29], [HUGE], [HUGE])


class RoundTests(unittest.TestCase):

    def test_rounds_never_fall_and_never_pass_a_flow(self):
        for net, setting in random_nets(59, 60, points=4, leading=True):
            starts = [1] * net.points
            flow = least_flow(net, setting, starts)
            now = [0] * net.points
            while now != flow:
                later = arriving(net, setting, starts, now)
                self.assertEqual(later, plain_arriving(net.exits(), setting, starts, now))
                self.assertTrue(all(one <= two <= three for one, two, three in zip(now, later, flow)))
                self.assertNotEqual(now, later)
                now = later


if __name__ == "__main__":
    unittest.main()
