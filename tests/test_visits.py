"""Dealing, arriving, flows, rings, less a ring [3a]."""

import random
import unittest

from flippedpoints.errors import InvalidNet, InvalidRing, InvalidSetting, InvalidStarts, InvalidVisits
from flippedpoints.nets import Net, last_exits
from flippedpoints.visits import arriving, behind, come, gone, has_ring, is_flow, less_ring, ring_of_visits
from tests.support import HUGE, INTEGERS, LISTS, PAIR, STRANGE, Call, CallTests
from tests.support import plain_arriving, plain_flows, plain_gone, plain_leads, plain_visits, random_nets
from tests.support import strange_but, wrong_nets, wrong_numbers, wrong_settings

NETS = (InvalidNet, wrong_nets())
SETTINGS = (InvalidSetting, wrong_settings(PAIR, [0, 1]))
STARTS = (InvalidStarts, wrong_numbers([1, 0]))
VISITS = (InvalidVisits, wrong_numbers([6, 3]))
MOST = HUGE - 1
# By the last exits of the visits [3, 2, 1, 1, 1] the points 0, 1 and 2 make a ring; 3 leads into it; 4 is one alone.
RINGS = Net(1, [[1, -1], [-1, 2], [0, 4], [0], [4, 4, -1]])
RINGS_SETTING, RINGS_VISITS = [0, 0, 0, 0, 0], [3, 2, 1, 1, 1]


def wrong_rings():
    rings = strange_but(list, tuple) + [[], (), [0], [1, 0], [0, 2, 1], [2, 1, 0], [0, 1], [0, 1, 2, 0, 1, 2], [0, 1, 2, 0]]
    rings += [[3], [3, 0, 1, 2], [0, 1, 2, 4], [4, 4], (4, 4), [5], [-1], [HUGE], [0, 1, 5], [0, -1, 2], [4, 0, 1, 2]]
    for at in range(3):
        for value in (True, False, None, "0", [at], (at,), {}, PAIR):
            rings.append([0, 1, 2][:at] + [value] + [0, 1, 2][at + 1:])
    return rings + [{0, 1, 2}, {0: 1, 1: 2, 2: 0}, [[0, 1, 2]], "012", [True], [False]]


class VisitCalls(CallTests, unittest.TestCase):

    def calls(self):
        own = {"net": PAIR, "setting": [0, 1], "visits": [6, 3]}
        wrong = {"net": NETS, "setting": SETTINGS, "visits": VISITS}
        started = {"net": PAIR, "setting": [0, 1], "starts": [1, 0]}
        three = {"net": NETS, "setting": SETTINGS, "starts": STARTS}
        ringed = {"net": RINGS, "setting": RINGS_SETTING, "visits": RINGS_VISITS, "ring": [0, 1, 2]}
        return [
            Call(gone, own, wrong),
            Call(behind, own, wrong),
            Call(arriving, {**started, "visits": [6, 3]}, {**three, "visits": VISITS}),
            Call(come, own, wrong),
            Call(is_flow, {**started, "value": [4, 2]}, three, asked=True),
            Call(has_ring, own, wrong),
            Call(ring_of_visits, ringed_without(ringed), wrong_ringed()),
            Call(less_ring, ringed, {**wrong_ringed(), "ring": (InvalidRing, wrong_rings())}),
        ]


def ringed_without(ringed):
    return {name: ringed[name] for name in ("net", "setting", "visits")}


def wrong_ringed():
    return {"net": NETS, "setting": (InvalidSetting, wrong_settings(RINGS, RINGS_SETTING)),
            "visits": (InvalidVisits, wrong_numbers(RINGS_VISITS))}


class DealingTests(unittest.TestCase):

    def some_visits(self, seed, most):
        chance = random.Random(seed)
        for net, setting in random_nets(seed, 150, points=5, exits=6, ends=6):
            yield net, setting, [chance.randint(0, most) for _ in range(net.points)]

    def test_gone(self):
        for net, setting, visits in self.some_visits(41, 15):
            self.assertEqual(gone(net, setting, visits), plain_gone(net.exits(), setting, visits))
            self.assertEqual(gone(net, tuple(setting), tuple(visits)), gone(net, setting, visits))

    def test_each_beginning_of_a_turn(self):
        net = Net(1, [[-1] * 6])
        for spot in range(6):
            for many in range(20):
                self.assertEqual(gone(net, [spot], [many]), plain_gone(net.exits(), [spot], [many]))
                self.assertEqual(behind(net, [spot], [many]), [(spot + many) % 6])

    def test_thirty_digits(self):
        net = Net(1, [[0, -1, 0], [-1]])
        third = MOST // 3
        self.assertEqual(gone(net, [1, 0], [MOST, MOST]), [third, third, third, MOST])
        self.assertEqual(gone(net, [1, 0], [MOST - 1, 0]), [third - 1, third, third, 0])
        self.assertEqual(behind(net, [1, 0], [MOST - 1, 7]), [0, 0])
        # What is summed up has more than thirty digits.
        self.assertEqual(come(net, [1, 0], [MOST, MOST]), [third + MOST])
        self.assertEqual(arriving(net, [1, 0], [MOST, 0], [MOST, 0]), [MOST + 2 * third, 0])
        for function in (gone, behind, come, has_ring, ring_of_visits):
            with self.assertRaises(InvalidVisits):
                function(net, [1, 0], [HUGE, 0])
        with self.assertRaises(InvalidStarts):
            arriving(net, [1, 0], [HUGE, 0], [HUGE, 0])

    def test_behind(self):
        for net, setting, visits in self.some_visits(42, 30):
            rows = net.exits()
            right = [(spot + many) % len(row) for spot, many, row in zip(setting, visits, rows)]
            self.assertEqual(behind(net, tuple(setting), tuple(visits)), right)

    def test_one_visits_behind_others(self):
        chance = random.Random(43)
        for net, setting, visits in self.some_visits(43, 20):
            others = [chance.randint(0, 10 ** 20) for _ in visits]
            both = [one + two for one, two in zip(visits, others)]
            later = gone(net, behind(net, setting, visits), others)
            self.assertEqual([one + two for one, two in zip(gone(net, setting, visits), later)], gone(net, setting, both))

    def test_arriving(self):
        chance = random.Random(44)
        for net, setting, visits in self.some_visits(44, 15):
            starts = [chance.randint(0, 5) for _ in visits]
            told = arriving(net, setting, starts, visits)
            self.assertEqual(told, plain_arriving(net.exits(), setting, starts, visits))
            more = [many + chance.randint(0, 2) for many in visits]
            self.assertTrue(all(one <= two for one, two in zip(told, arriving(net, setting, starts, more))))
            self.assertIs(is_flow(net, setting, starts, visits), told == visits)

    def test_come(self):
        self.assertEqual(come(Net(0, [[0]]), [0], [7]), [])
        self.assertEqual(come(Net(3, [[-3, -1, -3]]), [1], [4]), [2, 0, 2])
        for net, setting, visits in self.some_visits(45, 15):
            right = [0] * net.ends
            for target, many in zip(net.targets(), plain_gone(net.exits(), setting, visits)):
                if target < 0:
                    right[-target - 1] += many
            self.assertEqual(come(net, setting, visits), right)


class FlowTests(unittest.TestCase):

    def test_flows(self):
        for net, setting in random_nets(46, 80, points=3):
            for starts in ([0] * net.points, [1] * net.points, [at + 1 for at in range(net.points)]):
                for flow in plain_flows(net.exits(), setting, starts, 5):
                    self.assertIs(is_flow(net, setting, starts, flow), True)
                    self.assertIs(is_flow(net, tuple(setting), tuple(starts), tuple(flow)), True)
                    self.assertEqual(sum(come(net, setting, flow)), sum(starts))
                    for at in range(net.points):
                        changed = flow[:at] + [flow[at] + 1] + flow[at + 1:]
                        right = plain_arriving(net.exits(), setting, starts, changed) == changed
                        self.assertIs(is_flow(net, setting, starts, changed), right)

    def test_runs_are_flows(self):
        for net, setting in random_nets(47, 80, points=5, leading=True):
            visits, _ = plain_visits(net.exits(), setting, [2] * net.points, 100000)
            self.assertIs(is_flow(net, setting, [2] * net.points, visits), True)

    def test_any_value(self):
        values = STRANGE + INTEGERS + LISTS + wrong_numbers([4, 2]) + wrong_numbers((4, 2)) + [PAIR, [4], [4, 2, 0]]
        for value in values:
            self.assertIs(is_flow(PAIR, [0, 0], [1, 0], value), False)
        self.assertIs(is_flow(PAIR, [0, 0], [0, 0], [False, False]), False)
        self.assertIs(is_flow(PAIR, [0, 0], [0, 0], [0, 0]), True)

    def test_flows_of_more_than_thirty_digits_are_no_visits(self):
        net = Net(1, [[0, -1]])
        self.assertIs(is_flow(net, [1], [5 * 10 ** 29], [HUGE - 1]), True)
        self.assertIs(is_flow(net, [0], [5 * 10 ** 29], [HUGE]), False)
        self.assertIs(is_flow(net, [0], [5 * 10 ** 29 - 1], [HUGE - 2]), True)


class RingTests(unittest.TestCase):

    def assert_ring(self, net, setting, visits, ring):
        lasts = last_exits(net, behind(net, setting, visits))
        self.assertIsInstance(ring, list)
        self.assertTrue(0 < len(ring) == len(set(ring)) and all(visits[point] > 0 for point in ring))
        self.assertEqual([lasts[point] for point in ring], ring[1:] + ring[:1])

    def test_rings_of_all_visits(self):
        chance = random.Random(48)
        ringed = 0
        for net, setting in random_nets(48, 400, points=6):
            visits = [chance.choice([0, 1, 1, 2, 3, 7]) for _ in range(net.points)]
            lasts = last_exits(net, behind(net, setting, visits))
            # A ring of the visits is a ring of the net in which each visited point has its last exit alone.
            alone = [[target if many else -1] for target, many in zip(lasts, visits)]
            on_rings = [point for point in range(net.points) if plain_leads(alone, point, point)]
            self.assertIs(has_ring(net, setting, visits), bool(on_rings))
            ring = ring_of_visits(net, setting, visits)
            if not on_rings:
                self.assertIsNone(ring)
                continue
            ringed += 1
            self.assert_ring(net, setting, visits, ring)
            for at in range(len(ring)):
                turned = ring[at:] + ring[:at]
                right = [many - (point in ring) for point, many in enumerate(visits)]
                self.assertEqual(less_ring(net, setting, visits, turned), right)
                self.assertEqual(less_ring(net, tuple(setting), tuple(visits), tuple(turned)), right)
        self.assertGreater(ringed, 100)

    def test_two_rings(self):
        self.assertIs(has_ring(RINGS, RINGS_SETTING, RINGS_VISITS), True)
        self.assert_ring(RINGS, RINGS_SETTING, RINGS_VISITS, ring_of_visits(RINGS, RINGS_SETTING, RINGS_VISITS))
        for ring in ([0, 1, 2], [1, 2, 0], (2, 0, 1)):
            self.assertEqual(less_ring(RINGS, RINGS_SETTING, RINGS_VISITS, ring), [2, 1, 0, 1, 1])
        self.assertEqual(less_ring(RINGS, RINGS_SETTING, RINGS_VISITS, [4]), [3, 2, 1, 1, 0])

    def test_a_last_exit_to_the_point_itself(self):
        net = Net(1, [[-1, 0]])
        self.assertEqual(ring_of_visits(net, [0], [2]), [0])
        self.assertEqual(less_ring(net, [0], [2], (0,)), [1])
        self.assertIsNone(ring_of_visits(net, [0], [1]))
        self.assertIsNone(ring_of_visits(net, [1], [0]))
        self.assertEqual(ring_of_visits(net, [1], [1]), [0])

    def test_points_that_are_not_visited_make_no_ring(self):
        net = Net(0, [[1], [0]])
        for visits in ([0, 0], [1, 0], [0, 1]):
            self.assertIs(has_ring(net, [0, 0], visits), False)
            self.assertIsNone(ring_of_visits(net, [0, 0], visits))
            with self.assertRaises(InvalidRing):
                less_ring(net, [0, 0], visits, [0, 1])
        self.assertIs(has_ring(net, [0, 0], [1, MOST]), True)
        self.assertEqual(less_ring(net, [0, 0], [1, MOST], [1, 0]), [0, MOST - 1])

    def test_a_flow_less_a_ring_is_a_flow(self):
        for net, setting in random_nets(49, 80, points=3):
            for starts in ([0] * net.points, [1] * net.points):
                for flow in plain_flows(net.exits(), setting, starts, 5):
                    ring = ring_of_visits(net, setting, flow)
                    if ring is not None:
                        less = less_ring(net, setting, flow, ring)
                        self.assertIs(is_flow(net, setting, starts, less), True)
                        self.assertEqual(come(net, setting, less), come(net, setting, flow))


if __name__ == "__main__":
    unittest.main()
