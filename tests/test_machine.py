"""States, steps and runs of one train [2a]."""

import unittest

from flippedpoints.errors import Ended, InvalidMost, InvalidNet, InvalidPoint, InvalidSetting, InvalidState
from flippedpoints.machine import gone_tracks, is_run, is_state, ran, run_visits, stepped
from flippedpoints.nets import Net, many_settings, point_of, target_of
from tests.support import HUGE, INTEGERS, LISTS, PAIR, STRANGE, Call, CallTests
from tests.support import plain_arriving, plain_gone, plain_run, random_nets
from tests.support import wrong_indexes, wrong_nets, wrong_settings

NETS = (InvalidNet, wrong_nets())
SETTINGS = (InvalidSetting, wrong_settings(PAIR, [0, 1]))
BEGINS = (InvalidPoint, wrong_indexes(2) + [-2])
MOSTS = (InvalidMost, wrong_indexes(100001))
# A line of points like the two of the overview: its run doubles with each point.
LINE = Net(1, [[0, at + 1] for at in range(11)] + [[0, -1]])


def wrong_states():
    states = STRANGE + INTEGERS + LISTS + [PAIR, (), (0,), (0, (0, 0), 0), [0, (0, 0)], (0, [0, 0]), (None, (0, 0))]
    states += [(where, (0, 0)) for where in (2, -2, True, False, None, "0", [0], (0,), HUGE, -HUGE, PAIR)]
    states += [(0, setting) for setting in wrong_settings(PAIR, (0, 1)) + [[0, 1], [0, 0]]]
    return states + [(-1, [0, 0]), ((0, 0), 0), {0: (0, 0)}]


class MachineCalls(CallTests, unittest.TestCase):

    def calls(self):
        run = {"net": PAIR, "setting": [0, 1], "begin": 0, "most": 3}
        wrong = {"net": NETS, "setting": SETTINGS, "begin": BEGINS, "most": MOSTS}
        asked = {"net": PAIR, "setting": [0, 1], "begin": 0, "value": [0, 1]}
        return [
            Call(is_state, {"net": PAIR, "value": (0, (0, 1))}, {"net": NETS}, asked=True),
            Call(stepped, {"net": PAIR, "state": (0, (0, 1))}, {
                "net": NETS, "state": (InvalidState, wrong_states())}),
            Call(ran, run, wrong),
            Call(gone_tracks, run, wrong),
            Call(run_visits, run, wrong),
            Call(is_run, asked, {"net": NETS, "setting": SETTINGS, "begin": BEGINS}, asked=True),
        ]


class StateTests(unittest.TestCase):

    def test_states(self):
        for net, setting in random_nets(21, 40, points=5, ends=6):
            for where in range(-net.ends, net.points):
                self.assertIs(is_state(net, (where, tuple(setting))), True)
                self.assertIs(is_state(net, [where, tuple(setting)]), False)
                self.assertIs(is_state(net, (where, setting)), False)
            for where in (-net.ends - 1, net.points):
                self.assertIs(is_state(net, (where, tuple(setting))), False)
        for wrong in wrong_states():
            self.assertIs(is_state(PAIR, wrong), False)

    def test_steps(self):
        for net, setting in random_nets(22, 40, points=5, exits=6, ends=3):
            for begin in range(net.points):
                state = (begin, tuple(setting))
                held = state
                for most in range(1, 9):
                    where, marks, _ = plain_run(net.exits(), setting, begin, most)
                    if state[0] < 0:
                        break
                    state = stepped(net, state)
                    self.assertEqual(state, (where, marks))
                    self.assertEqual([state.__class__, state[1].__class__], [tuple, tuple])
                self.assertEqual(held, (begin, tuple(setting)))

    def test_no_step_leads_from_an_end(self):
        net = Net(2, [[-1, -2]])
        for where in (-1, -2):
            with self.assertRaises(Ended):
                stepped(net, (where, (0,)))

    def test_settings_turn_round(self):
        net = Net(1, [[0, 0, -1]])
        self.assertEqual([stepped(net, (0, (at,))) for at in range(3)], [(0, (1,)), (0, (2,)), (-1, (0,))])


class RunTests(unittest.TestCase):

    def test_runs_of_all_bounds(self):
        for net, setting in random_nets(23, 80, points=5):
            for begin in range(net.points):
                for most in (0, 1, 2, 7, 40):
                    where, marks, tracks = plain_run(net.exits(), setting, begin, most)
                    self.assertEqual(ran(net, setting, begin, most), ((where, marks), len(tracks)))
                    self.assertEqual(gone_tracks(net, tuple(setting), begin, most), tracks)
                    owners = [point_of(net, track) for track in tracks]
                    self.assertEqual(run_visits(net, setting, begin, most),
                                     [owners.count(point) for point in range(net.points)])

    def test_bounds_about_what_is_needed(self):
        self.assertEqual(ran(PAIR, [0, 0], 0, 5), ((1, (0, 1)), 5))
        for most in (6, 7, 100000):
            self.assertEqual(ran(PAIR, [0, 0], 0, most), ((-1, (0, 0)), 6))
            self.assertEqual(gone_tracks(PAIR, [0, 0], 0, most), [0, 1, 2, 0, 1, 3])
            self.assertEqual(run_visits(PAIR, [0, 0], 0, most), [4, 2])
        self.assertEqual(ran(PAIR, [0, 0], 0, 0), ((0, (0, 0)), 0))
        self.assertEqual([gone_tracks(PAIR, [0, 0], 0, 0), run_visits(PAIR, [0, 0], 0, 0)], [[], [0, 0]])

    def test_runs_that_never_end(self):
        net = Net(0, [[1], [0, 0]])
        self.assertEqual(ran(net, [0, 0], 0, 100000), ((0, (0, 0)), 100000))
        self.assertEqual(run_visits(net, [0, 0], 0, 99999), [50000, 49999])
        self.assertEqual(gone_tracks(Net(1, [[0], [-1]]), [0, 0], 0, 100000), [0] * 100000)

    def test_a_long_run(self):
        self.assertEqual(ran(LINE, [0] * 12, 0, 100000), ((-1, (0,) * 12), 8190))
        self.assertEqual(run_visits(LINE, [0] * 12, 0, 100000), [2 ** (12 - at) for at in range(12)])
        self.assertTrue(is_run(LINE, [0] * 12, 0, gone_tracks(LINE, [0] * 12, 0, 100000)))

    def test_returned_kinds(self):
        state, steps = ran(PAIR, [0, 0], 0, 3)
        self.assertEqual([state.__class__, state[1].__class__, steps], [tuple, tuple, 3])
        self.assertEqual(ran(PAIR, [0, 0], 0, 3).__class__, tuple)

    def test_is_run(self):
        for net, setting in random_nets(24, 60, points=4):
            for begin in range(net.points):
                where, _, tracks = plain_run(net.exits(), setting, begin, 12)
                for many in range(len(tracks) + 1):
                    self.assertIs(is_run(net, setting, begin, tracks[:many]), True)
                    self.assertIs(is_run(net, setting, begin, tuple(tracks[:many])), True)
                for at, track in enumerate(tracks):
                    for other in (track - 1, track + 1, -1, net.many, None, True, str(track), [track]):
                        changed = tracks[:at] + [other] + tracks[at + 1:]
                        self.assertIs(is_run(net, setting, begin, changed), False)
                if where < 0:
                    self.assertIs(is_run(net, setting, begin, tracks + [0]), False)
        for value in STRANGE + INTEGERS + [PAIR, [0, 1, 2, 0, 1, 3, 0], [False], [0, True], ["0"], {}, {0: 0}, "01"]:
            self.assertIs(is_run(PAIR, [0, 0], 0, value), False)

    def test_facts(self):
        for net, setting in random_nets(25, 120, points=3):
            rows = net.exits()
            states = net.points * many_settings(net)
            for begin in range(net.points):
                visits = run_visits(net, setting, begin, 500)
                (where, marks), steps = ran(net, setting, begin, 500)
                self.assertEqual(list(marks), [(spot + many) % len(row) for spot, many, row in zip(setting, visits, rows)])
                self.assertEqual(sum(visits), steps)
                self.assertEqual(where < 0, steps <= states)
                if where >= 0:
                    continue
                tracks = gone_tracks(net, setting, begin, 500)
                self.assertEqual([tracks.count(track) for track in range(net.many)], plain_gone(rows, setting, visits))
                starts = [int(point == begin) for point in range(net.points)]
                self.assertEqual(plain_arriving(rows, setting, starts, visits), visits)
                self.assertEqual(target_of(net, tracks[-1]), where)


if __name__ == "__main__":
    unittest.main()
