"""Crowds of trains, moves, sequences, the three rules, all crowds [2b]."""

import random
import unittest
from unittest import mock

from flippedpoints import crowds
from flippedpoints.crowds import all_behind, all_finished, by_sequence, crowd_of, finished, is_crowd, is_empty
from flippedpoints.crowds import moved, moves, visits_by
from flippedpoints.errors import BadSequence, InvalidCrowd, InvalidMost, InvalidNet, InvalidPoint, InvalidRule
from flippedpoints.errors import InvalidSetting, InvalidStarts, NotLeading, NoTrain, TooMany
from flippedpoints.nets import Net
from tests.support import HUGE, INTEGERS, LISTS, PAIR, STRANGE, Call, CallTests
from tests.support import plain_visits, random_nets
from tests.support import wrong_indexes, wrong_nets, wrong_numbers, wrong_settings

NETS = (InvalidNet, wrong_nets())
CROWD = ((1, 1), (0, 0), (0,))
MOST = HUGE - 1


def wrong_crowds():
    crowds = STRANGE + INTEGERS + LISTS + [PAIR, (), CROWD[:2], CROWD + ((),), list(CROWD), dict(enumerate(CROWD))]
    for waiting in wrong_numbers((1, 1)) + [[1, 1]]:
        crowds.append((waiting, (0, 0), (0,)))
    for setting in wrong_settings(PAIR, (0, 0)) + [[0, 0]]:
        crowds.append(((1, 1), setting, (0,)))
    for come in wrong_numbers((0,)) + [[0], ()]:
        crowds.append(((1, 1), (0, 0), come))
    return crowds


CROWDS = (InvalidCrowd, wrong_crowds())
RULES = (InvalidRule, [value for value in STRANGE + INTEGERS + LISTS + [PAIR]] + [
    "Least", "least\n", " least", "leas", "round", "all", ["least"], ("least",), b"least", {"least": "least"}])
MOSTS = (InvalidMost, wrong_indexes(100001))


class CrowdCalls(CallTests, unittest.TestCase):

    def calls(self):
        ruled = {"net": PAIR, "crowd": CROWD, "rule": "least", "most": 100}
        wrong = {"net": NETS, "crowd": CROWDS, "rule": RULES, "most": MOSTS}
        own, both = {"net": PAIR, "crowd": CROWD}, {"net": NETS, "crowd": CROWDS}
        return [
            Call(is_crowd, {"net": PAIR, "value": CROWD}, {"net": NETS}, asked=True),
            Call(crowd_of, {"net": PAIR, "setting": [0, 1], "starts": [3, MOST]}, {
                "net": NETS, "setting": (InvalidSetting, wrong_settings(PAIR, [0, 1])),
                "starts": (InvalidStarts, wrong_numbers([3, 4]))}),
            Call(is_empty, own, both),
            Call(moves, own, both),
            Call(moved, {**own, "point": 1}, {**both, "point": (InvalidPoint, wrong_indexes(2))}),
            Call(by_sequence, {**own, "sequence": [0, 1]}, both),
            Call(finished, ruled, wrong),
            Call(visits_by, ruled, wrong),
            Call(all_behind, own, both),
            Call(all_finished, own, both),
        ]

    def test_not_leading_comes_behind_the_parameters(self):
        for function in (all_behind, all_finished):
            for net, crowd in ((Net(0, [[0]]), ((0,), (0,), ())), (Net(1, [[0], [-1, 0]]), ((0, 9999), (0, 0), (0,)))):
                with self.assertRaises(NotLeading):
                    function(net, crowd)
                with self.assertRaises(InvalidCrowd):
                    function(net, crowd[:2])


class PlainCrowdTests(unittest.TestCase):

    def assert_plain(self, crowd):
        self.assertEqual([crowd.__class__] + [part.__class__ for part in crowd], [tuple] * 4)

    def test_is_crowd(self):
        self.assertIs(is_crowd(Net(0, [[0]]), ((3,), (0,), ())), True)
        self.assertIs(is_crowd(PAIR, ((MOST, 0), (1, 1), (MOST,))), True)
        for wrong in wrong_crowds():
            self.assertIs(is_crowd(PAIR, wrong), False)
        self.assertIs(is_crowd(Net(2, [[0]]), ((0,), (0,), (0,))), False)
        self.assertIs(is_crowd(Net(2, [[0, 1], [0]]), ((0, 0), (1, 1), (0, 0))), False)

    def test_crowd_of(self):
        for net, setting in random_nets(31, 20, ends=6):
            starts = [at * 10 ** 29 for at in range(net.points)]
            crowd = crowd_of(net, setting, starts)
            self.assertEqual(crowd, (tuple(starts), tuple(setting), (0,) * net.ends))
            self.assertEqual(crowd_of(net, tuple(setting), tuple(starts)), crowd)
            self.assert_plain(crowd)

    def test_empty(self):
        self.assertIs(is_empty(PAIR, ((0, 0), (1, 1), (MOST,))), True)
        self.assertIs(is_empty(PAIR, ((0, 1), (0, 0), (0,))), False)
        self.assertIs(is_empty(PAIR, ((1, 0), (0, 0), (0,))), False)

    def test_moves(self):
        net = Net(1, [[0, -1]] * 5)
        self.assertEqual(moves(net, ((0, 3, 0, MOST, 1), (0,) * 5, (2,))), [1, 3, 4])
        self.assertEqual(moves(net, ((0,) * 5, (0,) * 5, (2,))), [])

    def test_moved(self):
        net = Net(2, [[1, 0, -2], [-1]])
        self.assertEqual(moved(net, ((2, 0), (0, 0), (0, 7)), 0), ((1, 1), (1, 0), (0, 7)))
        self.assertEqual(moved(net, ((2, 0), (1, 0), (0, 7)), 0), ((2, 0), (2, 0), (0, 7)))
        self.assertEqual(moved(net, ((2, 0), (2, 0), (0, 7)), 0), ((1, 0), (0, 0), (0, 8)))
        self.assertEqual(moved(net, ((0, 1), (2, 0), (0, 7)), 1), ((0, 0), (2, 0), (1, 7)))
        self.assert_plain(moved(net, ((0, 1), (2, 0), (0, 7)), 1))
        for point, waiting in ((0, (0, 1)), (1, (1, 0))):
            with self.assertRaises(NoTrain) as caught:
                moved(net, (waiting, (0, 0), (0, 0)), point)
            self.assertEqual(caught.exception.point, point)

    def test_more_than_thirty_digits_behind_a_move(self):
        net = Net(1, [[1], [-1, 1]])
        behind = moved(net, ((1, MOST), (0, 0), (MOST,)), 0)
        self.assertEqual(behind, ((0, HUGE), (0, 0), (MOST,)))
        self.assertIs(is_crowd(net, behind), False)
        self.assertEqual(by_sequence(net, ((1, MOST), (0, 0), (MOST,)), [0, 1]), ((0, MOST), (0, 1), (HUGE,)))
        with self.assertRaises(InvalidCrowd) as caught:
            moves(net, behind)
        self.assertIs(caught.exception.value, behind)
        self.assertEqual(finished(net, ((0, 1), (0, 0), (MOST,)), "least", 9), (((0, 0), (0, 1), (HUGE,)), 1))
        three = all_behind(net, ((1, 0), (0, 0), (MOST,)))
        self.assertEqual(three, [((0, 0), (0, 1), (HUGE,)), ((0, 1), (0, 0), (MOST,)), ((1, 0), (0, 0), (MOST,))])


class SequenceTests(unittest.TestCase):

    def assert_bad(self, sequence, position, crowd=CROWD):
        with self.subTest(sequence=sequence), self.assertRaises(BadSequence) as caught:
            by_sequence(PAIR, crowd, sequence)
        self.assertIs(caught.exception.position, position)

    def test_no_list(self):
        for value in STRANGE + INTEGERS + [PAIR]:
            if not isinstance(value, (list, tuple)):
                self.assert_bad(value, None)

    def test_the_first_wrong_entry(self):
        for wrong in (2, -1, HUGE, True, False, None, "0", [0], (0,), {}, PAIR):
            self.assert_bad([wrong], 0)
            self.assert_bad((0, 1, wrong, 1, wrong), 2)
        one = ((1, 0), (0, 1), (0,))
        self.assert_bad([1], 0, one)
        self.assert_bad([1, 9], 0, one)
        self.assert_bad([0, 0, 0, True], 2, one)
        self.assert_bad([0, 1], 1, one)
        self.assert_bad([0, 0, 1, 1], 3, one)
        self.assert_bad([0], 0, ((0, 0), (0, 0), (0,)))

    def test_behind(self):
        self.assertEqual(by_sequence(PAIR, CROWD, []), CROWD)
        self.assertEqual(by_sequence(PAIR, CROWD, ()), CROWD)
        chance = random.Random(32)
        for net, setting in random_nets(32, 60):
            crowd = crowd_of(net, setting, [chance.randint(0, 3) for _ in range(net.points)])
            now, sequence = crowd, []
            while moves(net, now) and len(sequence) < 20:
                sequence.append(chance.choice(moves(net, now)))
                now = moved(net, now, sequence[-1])
                self.assertEqual(by_sequence(net, crowd, sequence), now)
            self.assertEqual(by_sequence(net, crowd, tuple(sequence)), now)

    def test_two_moves_in_either_sequence(self):
        for net, setting in random_nets(33, 60):
            crowd = crowd_of(net, setting, [1] * net.points)
            for one in range(net.points):
                for two in range(one):
                    self.assertEqual(by_sequence(net, crowd, [one, two]), by_sequence(net, crowd, [two, one]))


class RuleTests(unittest.TestCase):

    def test_which_point_a_rule_moves(self):
        # What a rule comes to is the same for all, so its sequence is told by the moves themselves.
        net = Net(1, [[1], [2, -1], [0, -1]])
        crowd = ((1, 0, 2), (0, 0, 0), (0,))
        rights = {"least": [0, 1, 2, 0, 1, 2, 2, 0, 1, 2], "greatest": [2, 2, 0, 1, 2, 0, 1, 0, 1, 2],
                  "rounds": [0, 1, 2, 0, 1, 2, 2, 0, 1, 2]}
        for rule, right in rights.items():
            self.assertEqual(self.points_moved(net, crowd, rule), right)
        far = ((2, 0, 1), (0, 0, 0), (0,))
        rights = {"least": [0, 0, 1, 1, 2, 0, 1, 2, 2, 0, 1], "greatest": [2, 0, 1, 2, 0, 1, 0, 1, 2, 0, 1],
                  "rounds": [0, 1, 2, 0, 1, 2, 0, 1, 2, 0, 1]}
        for rule, right in rights.items():
            self.assertEqual(self.points_moved(net, far, rule), right)

    def points_moved(self, net, crowd, rule):
        with mock.patch.object(crowds, "_move", wraps=crowds._move) as move:
            finished(net, crowd, rule, 100)
        return [call.args[-1] for call in move.call_args_list]

    def test_all_rules_come_to_the_same(self):
        chance = random.Random(34)
        for net, setting in random_nets(34, 150, points=5, leading=True):
            starts = [chance.randint(0, 4) for _ in range(net.points)]
            visits, marks = plain_visits(net.exits(), setting, starts, 100000)
            crowd = crowd_of(net, setting, starts)
            for rule in ("least", "greatest", "rounds"):
                last, many = finished(net, crowd, rule, 100000)
                self.assertEqual([many, list(last[1])], [sum(visits), marks])
                self.assertEqual([sum(last[2]), is_empty(net, last)], [sum(starts), True])
                self.assertEqual(visits_by(net, crowd, rule, 100000), visits)
                self.assertEqual(visits_by(net, crowd, rule, many), visits)
                if many:
                    self.assert_too_many(net, crowd, rule, many - 1)

    def assert_too_many(self, net, crowd, rule, most):
        for function in (finished, visits_by):
            with self.assertRaises(TooMany) as caught:
                function(net, crowd, rule, most)
            self.assertEqual([caught.exception.what, caught.exception.limit], ["moves", most])

    def test_random_sequences_come_to_the_same(self):
        chance = random.Random(35)
        for net, setting in random_nets(35, 60, leading=True):
            crowd = crowd_of(net, setting, [chance.randint(0, 3) for _ in range(net.points)])
            now, sequence = crowd, []
            while moves(net, now):
                sequence.append(chance.choice(moves(net, now)))
                now = moved(net, now, sequence[-1])
            self.assertEqual((now, len(sequence)), finished(net, crowd, "rounds", 100000))
            self.assertEqual([sequence.count(point) for point in range(net.points)],
                             visits_by(net, crowd, "greatest", 100000))

    def test_bounds(self):
        empty = ((0, 0), (1, 0), (3,))
        for rule in ("least", "greatest", "rounds"):
            self.assertEqual(finished(PAIR, empty, rule, 0), (empty, 0))
            self.assertEqual(visits_by(PAIR, empty, rule, 0), [0, 0])
            self.assertEqual(finished(PAIR, CROWD, rule, 10), (((0, 0), (0, 0), (2,)), 10))
            self.assert_too_many(PAIR, CROWD, rule, 9)
            self.assert_too_many(PAIR, CROWD, rule, 0)

    def test_what_never_ends(self):
        for rule in ("least", "greatest", "rounds"):
            self.assert_too_many(Net(0, [[0]]), ((1,), (0,), ()), rule, 100000)
            self.assert_too_many(Net(1, [[1, -1], [1]]), ((1, 0), (0, 0), (0,)), rule, 500)
            self.assertEqual(finished(Net(1, [[1, -1], [1]]), ((1, 0), (1, 0), (0,)), rule, 1),
                             (((0, 0), (0, 0), (1,)), 1))
            self.assertEqual(finished(Net(0, [[0]]), ((0,), (0,), ()), rule, 0), (((0,), (0,), ()), 0))

    def test_most_moves(self):
        net = Net(1, [[-1]])
        self.assertEqual(finished(net, ((100000,), (0,), (0,)), "least", 100000), (((0,), (0,), (100000,)), 100000))
        self.assert_too_many(net, ((100001,), (0,), (0,)), "rounds", 100000)
        self.assert_too_many(net, ((MOST,), (0,), (0,)), "greatest", 7)

    def test_returned_kinds(self):
        told = finished(PAIR, CROWD, "least", 10)
        self.assertEqual([told.__class__, told[0].__class__] + [part.__class__ for part in told[0]], [tuple] * 5)
        self.assertIsInstance(visits_by(PAIR, CROWD, "least", 10), list)


class AllTests(unittest.TestCase):

    def test_all_behind(self):
        chance = random.Random(36)
        for net, setting in random_nets(36, 60, points=3, leading=True):
            crowd = crowd_of(net, setting, [chance.randint(0, 1) for _ in range(net.points)])
            found, open_crowds = {crowd}, [crowd]
            while open_crowds:
                now = open_crowds.pop()
                further = {moved(net, now, point) for point in moves(net, now)} - found
                found |= further
                open_crowds += sorted(further)
            self.assertEqual(all_behind(net, crowd), sorted(found))
            self.assertEqual(all_finished(net, crowd), [finished(net, crowd, "least", 100000)[0]])

    def test_example_of_the_overview(self):
        told = all_behind(PAIR, ((1, 0), (0, 0), (0,)))
        self.assertEqual(told, sorted([
            ((1, 0), (0, 0), (0,)), ((1, 0), (1, 0), (0,)), ((0, 1), (0, 0), (0,)), ((1, 0), (0, 1), (0,)),
            ((1, 0), (1, 1), (0,)), ((0, 1), (0, 1), (0,)), ((0, 0), (0, 0), (1,))]))

    def test_two_thousand(self):
        net = Net(1, [[-1]])
        for function in (all_behind, all_finished):
            for many in (2000, 2001, MOST):
                with self.assertRaises(TooMany) as caught:
                    function(net, ((many,), (0,), (0,)))
                self.assertEqual([caught.exception.what, caught.exception.limit], ["crowds", 2000])
        self.assertEqual(all_behind(net, ((1999,), (0,), (0,))), [((at,), (0,), (1999 - at,)) for at in range(2000)])
        self.assertEqual(all_finished(net, ((1999,), (0,), (5,))), [((0,), (0,), (2004,))])
        wide = Net(1, [[-1]] * 3)
        self.assertEqual(len(all_behind(wide, ((9, 9, 19), (0,) * 3, (0,)))), 2000)
        with self.assertRaises(TooMany):
            all_behind(wide, ((9, 10, 19), (0,) * 3, (0,)))

    def test_nothing_waits(self):
        empty = ((0, 0), (1, 0), (3,))
        self.assertEqual([all_behind(PAIR, empty), all_finished(PAIR, empty)], [[empty], [empty]])

    def test_returned_kinds(self):
        for crowd in all_behind(PAIR, CROWD):
            self.assertEqual([crowd.__class__] + [part.__class__ for part in crowd], [tuple] * 4)


if __name__ == "__main__":
    unittest.main()
