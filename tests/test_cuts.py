"""Rings of tracks, cuts, sequences without a cut, the fewest cut [4a]."""

import itertools
import random
import unittest

from flippedpoints.cuts import fewest_cut, good_cut, is_cut, is_ring_without, ring_without, sequence_without
from flippedpoints.errors import InvalidLot, InvalidNet, NotCut, TooMany
from flippedpoints.nets import Net, is_leading, point_of, target_of
from tests.support import HUGE, INTEGERS, LISTS, PAIR, STRANGE, Call, CallTests
from tests.support import big_net, plain_is_cut, plain_rings, random_nets, wrong_lots, wrong_nets

NETS = (InvalidNet, wrong_nets())
THREE = Net(1, [[1, 2], [2, -1], [0, 1]])
LOTS = (InvalidLot, wrong_lots(3))
# No ring of tracks, with alike tracks.
DOWN = Net(2, [[2, 2, -1], [0, 2, 0], [-2], [1, -1]])


def loops(points, at):
    """A leading net of so many points, of which these have a track to themselves, without any further ring."""
    return Net(1, [[point, -1] if point in at else [-1] for point in range(points)])


def listed(points):
    """All rising lists in the sequence in which they are tried."""
    return (list(lot) for many in range(points + 1) for lot in itertools.combinations(range(points), many))


def is_plain_ring(net, lot, tracks):
    if not tracks:
        return False
    begins = [point_of(net, track) for track in tracks]
    goals = [target_of(net, track) for track in tracks]
    return goals == begins[1:] + begins[:1] and not set(begins) & set(lot)


class CutCalls(CallTests, unittest.TestCase):

    def calls(self):
        own, wrong = {"net": THREE, "lot": [0]}, {"net": NETS, "lot": LOTS}
        return [
            Call(is_cut, {"net": THREE, "value": [2]}, {"net": NETS}, asked=True),
            Call(ring_without, own, wrong),
            Call(is_ring_without, {**own, "value": [3, 5]}, wrong, asked=True),
            Call(sequence_without, {"net": THREE, "lot": [2]}, wrong),
            Call(good_cut, {"net": THREE}, {"net": NETS}),
            Call(fewest_cut, {"net": THREE}, {"net": NETS}),
        ]


class IsCutTests(unittest.TestCase):

    def test_all_lists_of_small_nets(self):
        for net, _ in random_nets(401, 120, points=5, exits=3):
            rings = plain_rings(net.exits())
            for lot in listed(net.points):
                right = all(ring & set(lot) for ring in rings)
                self.assertIs(is_cut(net, lot), right)
                self.assertIs(is_cut(net, tuple(lot)), right)
                if right:
                    # Whoever has a cut in it is one.
                    for point in range(net.points):
                        self.assertIs(is_cut(net, sorted({*lot, point})), True)
            self.assertIs(is_cut(net, list(range(net.points))), True)

    def test_any_value(self):
        for value in wrong_lots(3) + STRANGE + INTEGERS + [PAIR, [2, 1], [2, 2], [2, 0], [0, 2, 1], [2, 3], [-1, 2], [True, 2]]:
            right = isinstance(value, (list, tuple)) and list(value) == [0] and value[0].__class__ is int
            self.assertIs(is_cut(Net(1, [[0, -1], [2], [-1]]), value), right)
        for value in ([0, 1, 2], (0, 2), [1, 2], (2,)):
            self.assertIs(is_cut(THREE, value), True)

    def test_points_with_a_track_to_themselves(self):
        for at in ([0], [1, 3], [0, 1, 2, 3]):
            net = loops(4, at)
            for lot in listed(4):
                self.assertIs(is_cut(net, lot), set(at) <= set(lot))

    def test_nets_without_a_ring(self):
        for lot in listed(4):
            self.assertIs(is_cut(DOWN, lot), True)
            self.assertIsNone(ring_without(DOWN, lot))


class RingTests(unittest.TestCase):

    def test_a_ring_is_told_just_without_a_cut(self):
        for net, _ in random_nets(402, 150, points=5, exits=4):
            for lot in listed(net.points):
                ring = ring_without(net, lot)
                self.assertEqual(ring is None, plain_is_cut(net.exits(), lot))
                self.assertEqual(ring_without(net, tuple(lot)), ring)
                if ring is not None:
                    self.assertEqual(ring.__class__, list)
                    self.assertLessEqual(len(ring), net.points)
                    self.assertTrue(is_plain_ring(net, lot, ring))
                    self.assertIs(is_ring_without(net, lot, ring), True)

    def test_rings_of_big_nets(self):
        for seed in range(20):
            net, _ = big_net(seed)
            ring = ring_without(net, [])
            self.assertTrue(is_plain_ring(net, [], ring))
            self.assertLessEqual(len(ring), 24)
            whole = Net(0, [[(point + 1) % 24, (point + 1) % 24] for point in range(24)])
            self.assertEqual(len(ring_without(whole, [])), 24)

    def test_all_short_rows_of_tracks(self):
        for net, _ in random_nets(403, 60, points=3, exits=2):
            for many in range(5):
                for row in itertools.product(range(net.many), repeat=many):
                    for lot in ([], [0]):
                        right = is_plain_ring(net, lot, list(row))
                        self.assertIs(is_ring_without(net, lot, list(row)), right)
                        self.assertIs(is_ring_without(net, tuple(lot), row), right)

    def test_rings_of_whatever_length(self):
        ring = [1, 4]
        for many in range(1, 100):
            self.assertIs(is_ring_without(THREE, [], ring * many), True)
            self.assertIs(is_ring_without(THREE, [1], tuple(ring) * many), True)
            self.assertIs(is_ring_without(THREE, [], ring * many + [0]), False)
            self.assertIs(is_ring_without(THREE, [], ring * many + [0, 2, 4]), True)
            self.assertIs(is_ring_without(THREE, [1], ring * many + [0, 2, 4]), False)
        self.assertIs(is_ring_without(THREE, [], [4, 1]), True)
        self.assertIs(is_ring_without(THREE, [], []), False)
        self.assertIs(is_ring_without(THREE, [0, 1, 2], ()), False)

    def test_alike_tracks(self):
        net = Net(0, [[1, 1, 0], [0]])
        for ring in ([0, 3], [1, 3], [0, 3, 1, 3], [2], [2, 0, 3], [0, 3, 2, 2, 1, 3]):
            self.assertIs(is_ring_without(net, [], ring), True)
        for ring in ([0, 1], [3], [0], [0, 3, 3], [2, 0]):
            self.assertIs(is_ring_without(net, [], ring), False)

    def test_a_ring_never_goes_by_an_end(self):
        net = Net(2, [[-1, -2], [0, 1]])
        for ring in ([0], [1], [0, 1], [2, 0], [0, 2]):
            self.assertIs(is_ring_without(net, [], ring), False)
        self.assertIs(is_ring_without(net, [0], [3]), True)
        # The end 0 is told as -1, which isn't to be taken for the last point.
        self.assertIs(is_ring_without(Net(1, [[1], [-1]]), [], [0, 1]), False)

    def test_any_value(self):
        net = Net(1, [[0, 0, -1], [1, -1]])
        values = STRANGE + INTEGERS + LISTS + [PAIR, [0, True], [False], [True], [0, -1], [0, 5], [0, HUGE], ["0"], [[0]], {0}, {0: 0}]
        for value in values + ["0", range(1), iter([0])]:
            right = value.__class__ in (list, tuple) and len(value) > 0 and all(one.__class__ is int and one == 0 for one in value)
            self.assertIs(is_ring_without(net, [], value), right)


class SequenceTests(unittest.TestCase):

    def plain_sequence(self, exits, lot):
        left, told = set(range(len(exits))) - set(lot), []
        while left:
            ready = [point for point in left if not any(point in exits[other] for other in left)]
            if not ready:
                return None
            told.append(min(ready))
            left.discard(told[-1])
        return told

    def test_all_lists_of_small_nets(self):
        told = 0
        for net, _ in random_nets(404, 200, points=6, exits=3):
            for lot in listed(net.points):
                right = self.plain_sequence(net.exits(), lot)
                self.assertEqual(right is not None, plain_is_cut(net.exits(), lot))
                if right is None:
                    for given in (lot, tuple(lot)):
                        with self.assertRaises(NotCut):
                            sequence_without(net, given)
                    continue
                self.assertEqual(sequence_without(net, lot), right)
                self.assertEqual(sequence_without(net, tuple(lot)), right)
                self.assertEqual(sequence_without(net, lot).__class__, list)
                told += right != sorted(right)
        self.assertGreater(told, 100)

    def test_the_least_point_that_can_be_comes_first(self):
        net = Net(1, [[2], [2, -1], [-1], [1], [0, -1]])
        self.assertEqual(sequence_without(net, []), [3, 1, 4, 0, 2])
        self.assertEqual(sequence_without(net, [3]), [1, 4, 0, 2])
        self.assertEqual(sequence_without(net, [0, 3]), [1, 2, 4])
        self.assertEqual(sequence_without(net, [0, 1, 2, 3, 4]), [])
        self.assertEqual(sequence_without(DOWN, []), [3, 1, 0, 2])

    def test_three_points(self):
        self.assertEqual(sequence_without(THREE, [2]), [0, 1])
        self.assertEqual([fewest_cut(THREE), ring_without(THREE, [2])], [[2], None])


class FewestTests(unittest.TestCase):

    def test_small_nets(self):
        sizes = set()
        for net, _ in random_nets(405, 250, points=6, exits=4, ends=1):
            right = next(lot for lot in listed(net.points) if plain_is_cut(net.exits(), lot))
            self.assertEqual(fewest_cut(net), right)
            sizes.add(len(right))
        self.assertTrue({0, 1, 2, 3, 4} <= sizes)

    def test_edges(self):
        self.assertEqual(fewest_cut(DOWN), [])
        self.assertEqual(fewest_cut(Net(0, [[0]])), [0])
        self.assertEqual(fewest_cut(loops(24, [])), [])
        self.assertEqual(fewest_cut(loops(24, [5, 23])), [5, 23])
        self.assertEqual(fewest_cut(loops(6, range(6))), [0, 1, 2, 3, 4, 5])
        # Two rings, each of two points: of the four cuts the first one.
        self.assertEqual(fewest_cut(Net(1, [[3], [2, -1], [1], [0, -1]])), [0, 1])
        self.assertEqual(fewest_cut(Net(0, [[1, 2], [2, 0], [0, 1]])), [0, 1])

    def test_the_first_twenty_thousand(self):
        tried = list(itertools.islice(listed(24), 20002))
        for at in (0, 1, 24, 25, 300, 301, 12950, 12951, 19998, 19999):
            self.assertEqual(fewest_cut(loops(24, tried[at])), tried[at])
        for at in (20000, 20001):
            with self.assertRaises(TooMany) as caught:
                fewest_cut(loops(24, tried[at]))
            self.assertEqual([caught.exception.what, caught.exception.limit], ["tries", 20000])
        # Of fourteen points each list is among them, of fifteen those of eight points and more are not.
        self.assertEqual(fewest_cut(loops(14, range(14))), list(range(14)))
        with self.assertRaises(TooMany):
            fewest_cut(loops(15, range(15)))
        for points in (15, 24):
            with self.assertRaises(TooMany):
                fewest_cut(Net(0, [[(point + 1) % points, point] for point in range(points)]))

    def test_big_nets(self):
        for seed in range(12):
            net, _ = big_net(seed, tracks=40)
            try:
                lot = fewest_cut(net)
            except TooMany:
                self.assertGreater(len(good_cut(net)), 4)
                continue
            self.assertIs(is_cut(net, lot), True)
            for point in lot:
                self.assertIs(is_cut(net, [other for other in lot if other != point]), False)


class GoodCutTests(unittest.TestCase):

    def test_it_is_a_cut(self):
        nets = [net for net, _ in random_nets(406, 200, points=7, exits=4)]
        nets += [big_net(seed, tracks=tracks)[0] for seed in range(8) for tracks in (24, 36, 48, 60)]
        for net in nets + [DOWN, THREE, PAIR, loops(24, range(24)), Net(0, [[0]] * 24)]:
            lot = good_cut(net)
            self.assertEqual(lot.__class__, list)
            self.assertEqual(lot, sorted(set(lot)))
            self.assertIs(is_cut(net, lot), True)
            sequence = sequence_without(net, lot)
            self.assertEqual(sorted(sequence + lot), list(range(net.points)))

    def test_nets_that_lead_nowhere_have_cuts_too(self):
        chance = random.Random(407)
        for net, _ in random_nets(407, 60, points=6, ends=1, leading=False):
            self.assertIs(is_leading(net), False)
            lot = sorted(chance.sample(range(net.points), chance.randint(0, net.points)))
            self.assertIs(is_cut(net, lot), plain_is_cut(net.exits(), lot))
            self.assertIs(is_cut(net, good_cut(net)), True)


if __name__ == "__main__":
    unittest.main()
