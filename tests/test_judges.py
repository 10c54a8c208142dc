"""Judges of papers [5b]."""

import itertools
import random
import unittest

from flippedpoints.errors import InvalidEnd, InvalidNet, InvalidPoint, InvalidSetting, InvalidStarts, TooMany
from flippedpoints.fast import fast_flow_by
from flippedpoints.judges import is_arrive_paper, is_crowd_paper, is_never_paper, is_own_paper
from flippedpoints.nets import Net, is_leading
from flippedpoints.papers import arrive_paper, crowd_paper, never_paper, own_paper
from tests.support import HUGE, INTEGERS, LISTS, PAIR, STRANGE, Call, CallTests
from tests.support import far_come, one_at, plain_arriving, plain_entered, plain_flows, plain_lost, plain_visits, random_nets
from tests.support import far_is_least, trapped, wrong_indexes, wrong_lots, wrong_nets, wrong_numbers, wrong_settings

TRAP = Net(1, [[1, -1], [1]])
NETS = (InvalidNet, wrong_nets())
SETTINGS = (InvalidSetting, wrong_settings(PAIR, [0, 0]))
BEGINS = (InvalidPoint, wrong_indexes(2) + [-2])
ENDS = (InvalidEnd, wrong_indexes(1) + [-2])
STARTS = (InvalidStarts, wrong_numbers([2, 0]))
MOST = HUGE - 1
# The own paper of a train of PAIR, and a flow that goes round once more.
OWN, MORE = [4, 2], [5, 2]


class JudgeCalls(CallTests, unittest.TestCase):

    def calls(self):
        own, wrong = {"net": PAIR, "setting": [0, 0]}, {"net": NETS, "setting": SETTINGS}
        begun, wrong_begun = {**own, "begin": 0}, {**wrong, "begin": BEGINS}
        crowd = {**own, "starts": [2, 0], "value": ([8, 4], [2])}
        trap = {"net": TRAP, "setting": [0, 0], "begin": 0, "value": ([1], [1, 1])}
        return [
            Call(is_arrive_paper, {**begun, "end": 0, "value": OWN}, {**wrong_begun, "end": ENDS}, asked=True),
            Call(is_never_paper, trap, {**wrong_begun, "setting": (InvalidSetting, wrong_settings(TRAP, [0, 0]))}, asked=True),
            Call(is_own_paper, {**begun, "value": OWN}, wrong_begun, asked=True),
            Call(is_crowd_paper, crowd, {**wrong, "starts": STARTS}, asked=True),
        ]


class AnyValue(unittest.TestCase):

    def values(self):
        papers = [OWN, MORE, (OWN, [1]), ([1], [1, 1]), ([0, 1], [1, 1]), ([8, 4], [2])]
        values = STRANGE + INTEGERS + LISTS + [PAIR] + wrong_numbers(OWN) + wrong_numbers(tuple(OWN))
        values += [[value, value] for value in papers] + [list(value) for value in papers if value.__class__ is tuple]
        return values + [str(paper) for paper in papers] + [{0: 4, 1: 2}, {4, 2}, ["4", "2"], [[4, 2]], ([4, 2],), "42", b"42"]

    def test_arrive_and_own_papers(self):
        for value in self.values() + [[4, 3], [3, 2], [0, 0], [HUGE, HUGE]]:
            self.assertIs(is_arrive_paper(PAIR, [0, 0], 0, 0, value), False)
            self.assertIs(is_own_paper(PAIR, [0, 0], 0, value), False)
        for value, own in ((OWN, True), (tuple(OWN), True), (MORE, False), (tuple(MORE), False), ([6, 3], False)):
            self.assertIs(is_arrive_paper(PAIR, [0, 0], 0, 0, value), True)
            self.assertIs(is_own_paper(PAIR, [0, 0], 0, value), own)
        self.assertIs(is_arrive_paper(Net(1, [[-1]]), [0], 0, 0, [True]), False)
        self.assertIs(is_own_paper(Net(1, [[-1]]), [0], 0, [True]), False)

    def test_never_papers(self):
        right = ([1], [1, 1])
        for lot in ([1], (1,)):
            for visits in ([1, 1], (1, 1)):
                self.assertIs(is_never_paper(TRAP, [0, 0], 0, (lot, visits)), True)
                self.assertIs(is_never_paper(TRAP, (0, 0), 0, [lot, visits]), False)
        wrong = self.values() + [right + ((),), right[:1], ([1], [1, 1], None), ([1, 1], [1]), dict(enumerate(right))]
        wrong += [(lot, [1, 1]) for lot in wrong_lots(2) + [[], (), [0], [0, 1], [1, 0], [1, 1]]]
        wrong += [([1], visits) for visits in wrong_numbers([1, 1]) + [[1, 0], [1, 2], [0, 1], [2, 1], [0, 0], [1, 1, 0], OWN]]
        for value in wrong:
            self.assertIs(is_never_paper(TRAP, [0, 0], 0, value), False)
        self.assertIs(is_never_paper(TRAP, [1, 0], 0, right), False)

    def test_crowd_papers(self):
        for visits in ([8, 4], (8, 4)):
            for come in ([2], (2,)):
                self.assertIs(is_crowd_paper(PAIR, [0, 0], [2, 0], (visits, come)), True)
                self.assertIs(is_crowd_paper(PAIR, (0, 0), (2, 0), [visits, come]), False)
        right = ([8, 4], [2])
        wrong = self.values() + [right + ((),), right[:1], ([2], [8, 4]), dict(enumerate(right))]
        wrong += [([8, 4], come) for come in wrong_numbers([2]) + [[], [0], [1], [3], [2, 0], 2, [[2]], PAIR]]
        wrong += [(visits, [2]) for visits in wrong_numbers([8, 4]) + [[9, 4], [4, 2], [7, 4], [8, 5], [0, 0], [10, 5]]]
        for value in wrong:
            self.assertIs(is_crowd_paper(PAIR, [0, 0], [2, 0], value), False)
        # What comes is told by INTEGERS: True isn't 1, False isn't 0.
        one = Net(2, [[-1, -2]])
        self.assertIs(is_crowd_paper(one, [0], [1], ([1], [1, 0])), True)
        for come in ([True, 0], [1, False], [True, False], ["1", "0"], [1], [1, 0, 0], [0, 1], [1, 1]):
            self.assertIs(is_crowd_paper(one, [0], [1], ([1], come)), False)


class SmallNets(unittest.TestCase):

    def test_all_visits(self):
        told = []
        for ends in (1, 2, 6):
            for net, setting in random_nets(540 + ends, 60, points=3, exits=3, ends=ends):
                rows = net.exits()
                for begin in range(net.points):
                    starts = one_at(net.points, begin)
                    flows = plain_flows(rows, setting, starts, 4)
                    for visits in map(list, itertools.product(range(5), repeat=net.points)):
                        come = far_come(net.ends, rows, setting, visits)
                        for end in range(net.ends):
                            right = visits in flows and come[end] == 1
                            told.append(right)
                            self.assertIs(is_arrive_paper(net, setting, begin, end, visits), right)
                        right = far_is_least(rows, setting, starts, visits)
                        self.assertIs(is_own_paper(net, setting, begin, visits), right)
                        self.assertIs(is_own_paper(net, tuple(setting), begin, tuple(visits)), right)
        self.assertGreater(told.count(True), 300)

    def plain_is_never(self, net, setting, begin, lot, visits):
        rows = net.exits()
        if not lot or any(goal not in lot for point in lot for goal in rows[point]):
            return False
        shut = [[-1 - net.ends] if point in lot else row for point, row in enumerate(rows)]
        spots = [0 if point in lot else spot for point, spot in enumerate(setting)]
        if plain_arriving(shut, spots, one_at(net.points, begin), visits) != visits:
            return False
        return far_come(net.ends + 1, shut, spots, visits)[-1] == 1

    def test_all_lots_and_visits(self):
        found = 0
        for ends in (1, 6):
            for net, setting in random_nets(550 + ends, 60, points=3, exits=3, ends=ends, leading=False):
                lots = [list(lot) for many in range(net.points + 1) for lot in itertools.combinations(range(net.points), many)]
                for begin in range(net.points):
                    for lot in lots:
                        for visits in map(list, itertools.product(range(4), repeat=net.points)):
                            right = self.plain_is_never(net, setting, begin, lot, visits)
                            found += right
                            self.assertIs(is_never_paper(net, setting, begin, (lot, visits)), right)
                            if right:
                                self.assertIs(is_never_paper(net, tuple(setting), begin, (tuple(lot), tuple(visits))), True)
                                self.assertIs(is_never_paper(net, setting, begin, (lot[::-1], visits)), len(lot) == 1)
        self.assertGreater(found, 300)

    def test_just_one_of_both_exists(self):
        for ends in (1, 2, 6):
            for net, setting in random_nets(560 + ends, 100, points=6, ends=ends):
                for begin in range(net.points):
                    papers = [arrive_paper(net, setting, begin, end) for end in range(net.ends)]
                    paper, own = never_paper(net, setting, begin), own_paper(net, setting, begin)
                    self.assertEqual(len([one for one in papers + [paper] if one is not None]), 1)
                    self.assertEqual(own is None, paper is not None)
                    for end, one in enumerate(papers):
                        self.assertIs(is_arrive_paper(net, setting, begin, end, one), one is not None)
                        # A paper for one end is none for another one.
                        for other in range(net.ends):
                            self.assertIs(is_arrive_paper(net, setting, begin, other, own), papers[other] is not None)
                    self.assertIs(is_never_paper(net, setting, begin, paper), paper is not None)
                    self.assertIs(is_own_paper(net, setting, begin, own), own is not None)

    def test_papers_of_other_trains_and_settings(self):
        net = Net(2, [[0, 1, -1], [2, 0], [1, -2]])
        for setting in itertools.product(range(3), range(2), range(2)):
            for begin in range(3):
                own = own_paper(net, setting, begin)
                for other in itertools.product(range(3), range(2), range(2)):
                    for first in range(3):
                        right = far_is_least(net.exits(), other, one_at(3, first), own)
                        self.assertIs(is_own_paper(net, other, first, own), right)
                        if (other, first) == (setting, begin):
                            self.assertTrue(right)

    def test_flows_with_a_ring_more(self):
        net = Net(1, [[1, -1], [2, 2], [1, 0], [3, 3], [4]])
        setting, own = [1, 0, 0, 0, 0], [1, 0, 0, 0, 0]
        self.assertEqual(own_paper(net, setting, 0), own)
        for more in ([1, 1, 1, 0, 0], [1, 0, 0, 1, 0], [1, 0, 0, 0, 7], [1, 1, 1, MOST, MOST]):
            self.assertIs(is_arrive_paper(net, setting, 0, 0, more), True)
            self.assertIs(is_own_paper(net, setting, 0, more), False)
        self.assertIs(is_arrive_paper(net, setting, 0, 0, [1, 1, 1, HUGE, 0]), False)
        # A never paper may go round as well, where its lot isn't.
        never = Net(1, [[1, -1], [0, 2], [2], [3]])
        self.assertIs(is_never_paper(never, [0, 1, 0, 0], 0, ([2], [1, 1, 1, 5])), True)
        self.assertIs(is_never_paper(never, [0, 1, 0, 0], 0, ([2, 3], [1, 1, 1, 5])), False)
        self.assertIs(is_never_paper(never, [0, 1, 0, 0], 0, ([2, 3], [1, 1, 1, 0])), True)
        self.assertIs(is_never_paper(never, [0, 1, 0, 0], 0, ([3, 2], [1, 1, 1, 0])), False)
        # Into this lot nobody came: the one train arrived.
        self.assertIs(is_never_paper(never, [1, 1, 0, 0], 0, ([2], [1, 0, 0, 5])), False)

    def test_thirty_digits(self):
        ring = Net(1, [[0, -1], [1]])
        self.assertIs(is_arrive_paper(ring, [1, 0], 0, 0, [1, MOST]), True)
        self.assertIs(is_arrive_paper(ring, [1, 0], 0, 0, [1, HUGE]), False)
        self.assertIs(is_own_paper(ring, [1, 0], 0, [1, MOST]), False)
        self.assertIs(is_crowd_paper(PAIR, [0, 0], [10 ** 29, 0], ([4 * 10 ** 29, 2 * 10 ** 29], [10 ** 29])), True)
        self.assertIs(is_crowd_paper(PAIR, [0, 0], [MOST, 0], ([4 * MOST, 2 * MOST], [MOST])), False)
        # What comes may have more digits than visits may.
        four = Net(1, [[-1]] * 24)
        self.assertIs(is_crowd_paper(four, [0] * 24, [MOST] * 24, ([MOST] * 24, [24 * MOST])), True)
        self.assertIs(is_crowd_paper(four, [0] * 24, [MOST] * 24, ([MOST] * 24, [24 * MOST - 1])), False)


class Crowds(unittest.TestCase):

    def test_all_flows(self):
        found = 0
        for net, setting in random_nets(571, 120, points=3, ends=6):
            leading = is_leading(net)
            for starts in ([0] * net.points, [1] * net.points, [2, 0, 3][:net.points]):
                for flow in plain_flows(net.exits(), setting, starts, 5):
                    come = far_come(net.ends, net.exits(), setting, flow)
                    right = leading and far_is_least(net.exits(), setting, starts, flow)
                    found += right
                    self.assertIs(is_crowd_paper(net, setting, starts, (flow, come)), right)
                    for at in range(net.ends):
                        other = come[:at] + [come[at] + 1] + come[at + 1:]
                        self.assertIs(is_crowd_paper(net, setting, starts, (flow, other)), False)
        self.assertGreater(found, 100)

    def test_nets_that_are_not_leading(self):
        for net, setting in random_nets(572, 80, points=4, leading=False):
            starts = [0] * net.points
            self.assertIs(is_crowd_paper(net, setting, starts, (starts, [0] * net.ends)), False)
        self.assertIs(is_crowd_paper(Net(0, [[0]]), [0], [0], ([0], [])), False)

    def test_there_is_just_one(self):
        chance = random.Random(573)
        for net, setting in random_nets(573, 80, points=5, ends=6, leading=True):
            starts = [chance.randint(0, 9) for _ in range(net.points)]
            try:
                paper = crowd_paper(net, setting, starts)
            except TooMany:
                visits, _ = plain_visits(net.exits(), setting, starts, 10 ** 6)
                paper = visits, far_come(net.ends, net.exits(), setting, visits)
            self.assertIs(is_crowd_paper(net, setting, starts, paper), True)
            for at in range(net.points):
                other = list(paper[0])
                other[at] += 1
                self.assertIs(is_crowd_paper(net, setting, starts, (other, paper[1])), False)


class NoPaperTold(unittest.TestCase):
    """Judges need no cut: so they answer of nets, too, each of whose cuts has five points or more."""

    def test_nets_with_many_rings(self):
        for points in (5, 12, 20):
            for ends in (1, 6):
                net = Net(ends, [[at, (at + 1) % points, -ends] for at in range(points)])
                setting = [0] * points
                for function in (arrive_paper, never_paper, own_paper):
                    with self.assertRaises(TooMany):
                        function(net, setting, 0, *([0] if function == arrive_paper else []))
                own = fast_flow_by(net, setting, one_at(points, 0), list(range(points)))
                self.assertIs(is_own_paper(net, setting, 0, own), True)
                self.assertIs(is_arrive_paper(net, setting, 0, ends - 1, own), True)
                self.assertIs(is_crowd_paper(net, setting, one_at(points, 0), (own, [0] * (ends - 1) + [1])), True)
                self.assertIs(is_never_paper(net, setting, 0, ([0], own)), False)

    def test_never_papers_with_many_rings(self):
        for ends in (0, 1, 6):
            rows = [[at, at + 1, at + 1] + [-1] * (ends > 0) for at in range(10)] + [[at, at] for at in range(10, 15)]
            net = Net(ends, rows)
            setting = [1] * 10 + [0] * 5
            paper = ([10], [1] * 11 + [0] * 4)
            self.assertIs(is_never_paper(net, setting, 0, paper), True)
            self.assertIs(is_never_paper(net, setting, 0, ([10, 14], paper[1])), True)
            self.assertIs(is_never_paper(net, setting, 1, paper), False)
            self.assertIs(is_never_paper(net, [0] * 15, 0, paper), False)

    def test_big_nets(self):
        net = trapped(6, 24, 4)
        for begin in range(24):
            where, visits = plain_entered(net.exits(), [0] * 24, begin, plain_lost(6, net.exits()))
            self.assertEqual(where, max(20, begin))
            visits[where] += 1
            self.assertIs(is_never_paper(net, [0] * 24, begin, ([20, 21, 22, 23], visits)), True)
            self.assertIs(is_own_paper(net, [0] * 24, begin, visits), False)


if __name__ == "__main__":
    unittest.main()
