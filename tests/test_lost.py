"""Lost points, shut lots, closing, where a train enters, how many are lost [5a]."""

import itertools
import random
import unittest

from flippedpoints.errors import InvalidLot, InvalidNet, InvalidPoint, InvalidSetting, InvalidStarts, TooMany
from flippedpoints.fast import long_run, sent
from flippedpoints.lost import closed, entered, is_shut, lost_by, lost_points, never_ends
from flippedpoints.machine import ran
from flippedpoints.nets import Net, is_leading, is_setting, many_settings
from tests.support import HUGE, INTEGERS, LISTS, PAIR, STRANGE, Call, CallTests
from tests.support import one_at, plain_entered, plain_is_leading, plain_lost, random_nets, trapped
from tests.support import wrong_indexes, wrong_lots, wrong_nets, wrong_numbers, wrong_settings

TRAP = Net(1, [[1, -1], [2, 0], [2]])
NETS = (InvalidNet, wrong_nets())
SETTINGS = (InvalidSetting, wrong_settings(TRAP, [1, 1, 0]))
LOTS = (InvalidLot, wrong_lots(3))
BEGINS = (InvalidPoint, wrong_indexes(3) + [-2])
STARTS = (InvalidStarts, wrong_numbers([3, 0, 1]))
MOST = HUGE - 1
# Six ends, and a seventh one where it is closed.
WIDE = Net(6, [[1, -1, 2], [2, -2, 3, -3], [0, -4, 4, -5], [3, 4], [4, 3], [5, -6, 3]])


def looped(points, lost, ends=1):
    """The first points have a track to themselves, the last ones are lost, each with one to itself, too."""
    rows = [[at, min(at + 1, points - 1), -1] for at in range(points - lost)] + [[at, points - 1] for at in range(points - lost, points)]
    return Net(ends, rows)


class LostCalls(CallTests, unittest.TestCase):

    def calls(self):
        own, wrong = {"net": TRAP, "setting": [1, 1, 0]}, {"net": NETS, "setting": SETTINGS}
        begun, wrong_begun = {**own, "begin": 1}, {**wrong, "begin": BEGINS}
        return [
            Call(lost_points, {"net": TRAP}, {"net": NETS}),
            Call(is_shut, {"net": TRAP, "value": [2]}, {"net": NETS}, asked=True),
            Call(closed, {**own, "lot": [0, 2]}, {**wrong, "lot": LOTS}),
            Call(entered, begun, wrong_begun),
            Call(never_ends, begun, wrong_begun),
            Call(lost_by, {**own, "starts": [3, 0, 1]}, {**wrong, "starts": STARTS}),
        ]


class LostPoints(unittest.TestCase):

    def test_they_lead_to_no_end(self):
        for leading in (True, False):
            for net, _ in random_nets(501, 150, points=6, ends=6, leading=leading):
                lost = plain_lost(net.ends, net.exits())
                self.assertEqual(lost_points(net), lost)
                self.assertEqual(is_leading(net), lost == [])
                self.assertIs(is_shut(net, lost), True)

    def test_they_are_the_greatest_shut_lot(self):
        for net, _ in random_nets(502, 150, points=5, leading=False):
            rows = net.exits()
            union = set()
            for many in range(net.points + 1):
                for lot in itertools.combinations(range(net.points), many):
                    right = all(goal in lot for point in lot for goal in rows[point])
                    self.assertIs(is_shut(net, lot), right)
                    self.assertIs(is_shut(net, list(lot)), right)
                    union |= set(lot) if right else set()
            self.assertEqual(lost_points(net), sorted(union))

    def test_edges(self):
        self.assertEqual(lost_points(Net(0, [[0], [1, 0]])), [0, 1])
        self.assertEqual(lost_points(Net(6, [[0]])), [0])
        self.assertEqual(lost_points(Net(6, [[-6]])), [])
        self.assertEqual(lost_points(Net(1, [[0]] * 23 + [[22, -1]])), list(range(23)))
        self.assertEqual(lost_points(trapped(2, 24, 5)), [19, 20, 21, 22, 23])

    def test_any_value_is_asked_for_shut(self):
        self.assertEqual([is_shut(TRAP, []), is_shut(TRAP, ()), is_shut(TRAP, [2]), is_shut(TRAP, (2,))], [True] * 4)
        values = wrong_lots(3) + [value for value in STRANGE + INTEGERS + LISTS if value not in ([], ())]
        for value in values + [[0], [1], [0, 1], [1, 2], [0, 1, 2], [2, 2], [2, 1], [3], [2, 3], [True, 2], [-1], [2, -1], {2}, {2: 2}]:
            self.assertIs(is_shut(TRAP, value), False)
        both = Net(1, [[0], [1, 1], [-1, 0]])
        self.assertEqual([is_shut(both, [0, 1]), is_shut(both, [1, 0]), is_shut(both, [0, 0])], [True, False, False])
        # Ends are told by numbers below 0, which aren't to be taken for points from behind.
        self.assertIs(is_shut(Net(1, [[0], [-1]]), [0, 1]), False)


class Closing(unittest.TestCase):

    def test_all_lots(self):
        for net, setting in random_nets(503, 80, points=4, exits=4, ends=5):
            held = net.exits()
            for many in range(net.points + 1):
                for lot in itertools.combinations(range(net.points), many):
                    rows = [[-1 - net.ends] if point in lot else row for point, row in enumerate(held)]
                    told = closed(net, setting, list(lot))
                    self.assertEqual([told.__class__, told[1].__class__], [tuple, list])
                    self.assertEqual(told, (Net(net.ends + 1, rows), [0 if at in lot else spot for at, spot in enumerate(setting)]))
                    self.assertEqual(closed(net, tuple(setting), lot), told)
                    self.assertTrue(is_setting(*told))
                    self.assertEqual(net.exits(), held)

    def test_closed_at_its_lost_points_it_is_leading(self):
        for net, setting in random_nets(504, 150, points=6, ends=5, leading=False):
            lost = lost_points(net)
            shut, spots = closed(net, setting, lost)
            self.assertTrue(plain_is_leading(shut.ends, shut.exits()))
            for begin in range(net.points):
                where, visits = plain_entered(net.exits(), setting, begin, lost)
                (later, marks), steps = ran(shut, spots, begin, 100000)
                if where < 0:
                    # A train that doesn't come to the lot runs as before.
                    self.assertEqual(((later, marks), steps), ((where, marks), sum(visits)))
                    (_, plain), _ = ran(net, setting, begin, 100000)
                    self.assertEqual([mark for at, mark in enumerate(marks) if at not in lost],
                                     [mark for at, mark in enumerate(plain) if at not in lost])
                else:
                    self.assertEqual([later, steps], [-1 - net.ends, sum(visits) + 1])

    def test_six_ends(self):
        for lot in ([], [3, 4], [0, 1, 2, 3, 4, 5]):
            with self.assertRaises(TooMany) as caught:
                closed(WIDE, [0] * 6, lot)
            self.assertEqual([caught.exception.what, caught.exception.limit], ["ends", 6])
        with self.assertRaises(InvalidLot):
            closed(WIDE, [0] * 6, [4, 3])
        five = Net(5, [[-5, 0], [-1]])
        self.assertEqual(closed(five, [1, 0], [0])[0], Net(6, [[-6], [-1]]))
        self.assertEqual(closed(five, [1, 0], []), (Net(6, [[-5, 0], [-1]]), [1, 0]))
        self.assertEqual(closed(Net(0, [[0], [0]]), [0, 0], [0, 1]), (Net(1, [[-1], [-1]]), [0, 0]))


class Entering(unittest.TestCase):

    def assert_train(self, net, setting, begin):
        lost = plain_lost(net.ends, net.exits())
        where, _ = plain_entered(net.exits(), setting, begin, lost)
        right = ("end", -1 - where) if where < 0 else ("lost", where)
        self.assertEqual(entered(net, setting, begin), right)
        self.assertEqual(entered(net, tuple(setting), begin), right)
        self.assertEqual(entered(net, setting, begin).__class__, tuple)
        self.assertIs(never_ends(net, setting, begin), where >= 0)
        self.assertIs(never_ends(net, tuple(setting), begin), where >= 0)
        self.assertEqual(lost_by(net, setting, one_at(net.points, begin)), int(where >= 0))
        return right[0]

    def test_small_nets(self):
        words = []
        for ends in (1, 2, 6):
            for net, setting in random_nets(505 + ends, 120, points=6, ends=ends, leading=False):
                words += [self.assert_train(net, setting, begin) for begin in range(net.points)]
        self.assertGreater(words.count("end"), 100)
        self.assertGreater(words.count("lost"), 100)

    def test_all_settings_of_a_net_with_six_ends(self):
        words = set()
        for setting in itertools.product(*[range(len(row)) for row in WIDE.exits()]):
            for begin in range(6):
                words.add(entered(WIDE, setting, begin))
            self.assert_train(WIDE, list(setting), 0)
        self.assertEqual(sorted(words), [("end", end) for end in range(6)] + [("lost", 3), ("lost", 4)])

    def test_a_train_never_ends_exactly_if_its_states_come_again(self):
        for net, setting in random_nets(509, 120, points=3, ends=6):
            for begin in range(net.points):
                (where, _), _ = ran(net, setting, begin, net.points * many_settings(net) + 1)
                self.assertIs(never_ends(net, setting, begin), where >= 0)

    def test_begins_at_lost_points(self):
        for ends in (0, 1, 6):
            for setting in itertools.product(range(2), repeat=3):
                net = Net(ends, [[0, 1], [1, 2], [2, 0]])
                for begin in range(3):
                    self.assertEqual(entered(net, setting, begin), ("lost", begin))
                    self.assertIs(never_ends(net, setting, begin), True)
                self.assertEqual(lost_by(net, setting, [3, MOST, 0]), 3 + MOST)
        self.assertEqual(entered(TRAP, [0, 0, 0], 2), ("lost", 2))

    def test_leading_nets_lose_none(self):
        for net, setting in random_nets(510, 60, points=4, ends=6, leading=True):
            for begin in range(net.points):
                end, _, _ = long_run(net, setting, begin)
                self.assertEqual(entered(net, setting, begin), ("end", end))
                self.assertIs(never_ends(net, setting, begin), False)
            self.assertEqual(lost_by(net, setting, [MOST] * net.points), 0)

    def test_long_ways_to_a_lost_point(self):
        rows = [[0, at + 1] for at in range(20)] + [[-1, 21], [22, 21], [21]]
        net = Net(1, rows)
        self.assertEqual(entered(net, [0] * 23, 0), ("end", 0))
        self.assertEqual(entered(net, [0] * 20 + [1, 0, 0], 0), ("lost", 21))
        self.assertEqual(lost_by(net, [0] * 23, [MOST] + [0] * 22), MOST // 2)
        self.assertEqual(lost_by(net, [0] * 20 + [1, 0, 0], [MOST] + [0] * 22), MOST // 2 + 1)
        self.assertIs(never_ends(net, [0] * 20 + [1, 0, 0], 19), True)


class ManyLost(unittest.TestCase):

    def test_small_nets(self):
        chance = random.Random(511)
        for net, setting in random_nets(511, 150, points=5, ends=6, leading=False):
            starts = [chance.randint(0, 5) for _ in range(net.points)]
            lost = plain_lost(net.ends, net.exits())
            # One train behind the other, from whichever point; the points stand as the last one left them.
            begins = [point for point, many in enumerate(starts) for _ in range(many)]
            for _ in range(2):
                chance.shuffle(begins)
                marks, many = list(setting), 0
                for begin in begins:
                    where, visits = plain_entered(net.exits(), marks, begin, lost)
                    marks = [(mark + times) % len(row) for mark, times, row in zip(marks, visits, net.exits())]
                    many += where >= 0
                self.assertEqual(lost_by(net, setting, starts), many)
                self.assertEqual(lost_by(net, tuple(setting), tuple(starts)), many)

    def test_as_the_closed_net_tells(self):
        chance = random.Random(512)
        for net, setting in random_nets(512, 60, points=6, ends=5, leading=False):
            starts = [chance.choice([0, 3, MOST]) for _ in range(net.points)]
            shut, spots = closed(net, setting, lost_points(net))
            self.assertEqual(lost_by(net, setting, starts), sent(shut, spots, starts)[1][-1])

    def test_starts_of_nothing(self):
        for net in (TRAP, WIDE, PAIR, Net(0, [[0]])):
            self.assertEqual(lost_by(net, [0] * net.points, [0] * net.points), 0)

    def test_thirty_digits(self):
        self.assertEqual(lost_by(TRAP, [0, 0, 0], [0, 0, MOST]), MOST)
        self.assertEqual(lost_by(WIDE, [0] * 6, [0, 0, 0, MOST, MOST, 0]), 2 * MOST)
        self.assertEqual(lost_by(Net(1, [[-1, 1], [1]]), [0, 0], [MOST, 0]), MOST // 2)
        self.assertEqual(lost_by(Net(1, [[-1, 1], [1]]), [1, 0], [MOST, 0]), MOST // 2 + 1)


class CutSizes(unittest.TestCase):

    def assert_too_many(self, function, *arguments):
        with self.assertRaises(TooMany) as caught:
            function(*arguments)
        self.assertEqual([caught.exception.what, caught.exception.limit], ["cut", 4])

    def test_rings_of_lost_points_need_no_cut(self):
        for ends in (1, 6):
            for points, lost in ((12, 8), (20, 16), (4, 0), (24, 24)):
                net = looped(points, lost, ends)
                setting = [1] * points
                if points > lost:
                    self.assertEqual(entered(net, setting, 0)[0], "lost" if lost else "end")
                self.assertEqual(lost_by(net, setting, [0] * points), 0)
                self.assertIs(never_ends(net, setting, points - 1), lost > 0)
            self.assertEqual(entered(trapped(ends, 24, 22), [0] * 24, 0), ("lost", 2))

    def test_five_points_that_are_not_lost(self):
        for ends in (1, 6):
            for points, lost in ((5, 0), (6, 1), (12, 7), (20, 14)):
                net = looped(points, lost, ends)
                setting = [0] * points
                for begin in (0, points - 1):
                    self.assert_too_many(entered, net, setting, begin)
                    self.assert_too_many(never_ends, net, setting, begin)
                for starts in ([0] * points, [1] * points, one_at(points, points - 1)):
                    self.assert_too_many(lost_by, net, setting, starts)
        with self.assertRaises(InvalidStarts):
            lost_by(looped(5, 0), [0] * 5, [0] * 6)
        with self.assertRaises(InvalidPoint):
            entered(looped(5, 0), [0] * 5, 5)


if __name__ == "__main__":
    unittest.main()
