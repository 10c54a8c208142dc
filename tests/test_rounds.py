"""Round nets, ring states, turns, settling, all ring states [7a]."""

import itertools
import random
import unittest
from fractions import Fraction
from math import gcd

from flippedpoints.errors import InvalidNet, InvalidState, InvalidTimes, NotRound, TooMany
from flippedpoints.machine import stepped
from flippedpoints.nets import Net, many_settings
from flippedpoints.rounds import ahead, all_ring_states, is_ring_state, is_round_net, settled, turn_length, turn_visits, turns
from tests.support import HUGE, INTEGERS, LISTS, PAIR, STRANGE, Call, CallTests
from tests.support import plain_leads, random_nets, wrong_nets, wrong_settings, wrong_times

BOTH = Net(0, [[0, 1], [0]])
TWO = Net(0, [[0, 1, 1], [0, 1]])
NETS = (InvalidNet, wrong_nets())
MOST = HUGE - 1
# A line of points, each leading back to the first one: it takes long until the last one is come to.
LINE = Net(0, [[0, at + 1] for at in range(17)] + [[0]])


def wrong_states():
    states = STRANGE + INTEGERS + LISTS + [PAIR, (), (0,), (0, (0, 0), 0), [0, (0, 0)], (0, [0, 0]), (None, (0, 0)), (-1, (0, 0))]
    states += [(where, (0, 0)) for where in (2, -2, True, False, None, "0", [0], (0,), HUGE, -HUGE, PAIR)]
    states += [(0, setting) for setting in wrong_settings(TWO, (0, 1)) + [[0, 1], [0, 0]]]
    return states + [((0, 0), 0), {0: (0, 0)}]


STATES = (InvalidState, wrong_states())


def plain_steps(exits, state, many):
    """The state behind so many steps, and how often each exit was gone."""
    where, marks = state[0], list(state[1])
    gone = [[0] * len(row) for row in exits]
    for _ in range(many):
        spot = marks[where]
        gone[where][spot] += 1
        marks[where] = (spot + 1) % len(exits[where])
        where = exits[where][spot]
    return (where, tuple(marks)), gone


def plain_comes_again(exits, state):
    """Behind how many steps the state comes again for the first time; None if it never does."""
    bound = len(exits)
    for row in exits:
        bound *= len(row)
    now = state
    for many in range(1, bound + 1):
        now, _ = plain_steps(exits, now, 1)
        if now == state:
            return many
    return None


def plain_is_round(net):
    rows = net.exits()
    return net.ends == 0 and all(plain_leads(rows, one, two) for one in range(len(rows)) for two in range(len(rows)))


def round_nets(seed, many, points, exits):
    chance = random.Random(seed)
    found = []
    while len(found) < many:
        size = chance.randint(1, points)
        net = Net(0, [[chance.randrange(size) for _ in range(chance.randint(1, exits))] for _ in range(size)])
        if plain_is_round(net):
            found.append(net)
    return found


def states_of(net):
    settings = itertools.product(*[range(len(row)) for row in net.exits()])
    return [(where, setting) for setting in settings for where in range(net.points)]


def long_net(seed):
    """A round net of 24 points and 60 tracks."""
    chance = random.Random(seed)
    rows = [[(at + 1) % 24] for at in range(24)]
    for _ in range(36):
        chance.choice([row for row in rows if len(row) < 6]).append(chance.randrange(24))
    return Net(0, [chance.sample(row, len(row)) for row in rows])


class RoundCalls(CallTests, unittest.TestCase):

    def calls(self):
        own, wrong = {"net": TWO, "state": (1, (1, 0))}, {"net": NETS, "state": STATES}
        return [
            Call(is_round_net, {"net": TWO}, {"net": NETS}),
            Call(is_ring_state, own, wrong),
            Call(turns, {"net": TWO}, {"net": NETS}),
            Call(turn_visits, {"net": TWO}, {"net": NETS}),
            Call(turn_length, {"net": TWO}, {"net": NETS}),
            Call(settled, own, wrong),
            Call(ahead, {**own, "times": 7}, {**wrong, "times": (InvalidTimes, wrong_times())}),
            Call(all_ring_states, {"net": TWO}, {"net": NETS}),
        ]

    def test_not_round(self):
        nets = [Net(0, [[0], [0]]), Net(0, [[1], [1]]), Net(1, [[0, -1]]), Net(1, [[1], [0]]), Net(6, [[0]]),
                Net(0, [[1], [0], [3], [2]]), Net(0, [[1], [0], [3, 0], [2]]), Net(0, [[at, at] for at in range(13)])]
        for net in nets:
            state = (0, (0,) * net.points)
            self.assertIs(is_round_net(net), False)
            for function, arguments in ((is_ring_state, [state]), (turns, []), (turn_visits, []), (turn_length, []),
                                        (settled, [state]), (ahead, [state, 0]), (ahead, [state, MOST]), (all_ring_states, [])):
                with self.assertRaises(NotRound):
                    function(net, *arguments)
            for function in (is_ring_state, settled):
                with self.assertRaises(InvalidState):
                    function(net, (0, (0,) * (net.points + 1)))
            with self.assertRaises(InvalidTimes):
                ahead(net, state, -1)
            if net.ends:
                # A state of the net, but the net isn't round.
                with self.assertRaises(NotRound):
                    settled(net, (-1, (0,) * net.points))


class RoundNets(unittest.TestCase):

    def test_round_nets(self):
        words = []
        for ends in (0, 1):
            for net, _ in random_nets(701 + ends, 300, points=4, exits=3, ends=ends):
                words.append(plain_is_round(net))
                self.assertIs(is_round_net(net), words[-1])
        self.assertGreater(words.count(True), 50)
        for net in round_nets(703, 60, 6, 3):
            self.assertIs(is_round_net(net), True)
        self.assertEqual([is_round_net(Net(0, [[0]])), is_round_net(Net(1, [[0]])), is_round_net(long_net(1))], [True, False, True])
        self.assertIs(is_round_net(Net(0, [[(at + 1) % 24] for at in range(24)])), True)
        self.assertIs(is_round_net(Net(0, [[min(at + 1, 23)] for at in range(24)])), False)


class RingStates(unittest.TestCase):

    def test_they_are_those_that_come_again(self):
        for net in round_nets(711, 60, 4, 3):
            rows = net.exits()
            length = turn_length(net)
            found = []
            for state in states_of(net):
                again = plain_comes_again(rows, state)
                self.assertIs(is_ring_state(net, state), again is not None)
                if again is not None:
                    found.append(state)
                    # It comes again behind one whole turn, for the first time, and each exit is gone just as turns tell.
                    self.assertEqual(again, length)
                    _, gone = plain_steps(rows, state, length)
                    self.assertEqual(gone, [[many] * len(row) for many, row in zip(turns(net), rows)])
                    self.assertIs(is_ring_state(net, stepped(net, state)), True)
            self.assertEqual(all_ring_states(net), sorted(found))
            self.assertEqual(len(found) % length, 0)

    def test_each_is_in_just_one_whole_turn(self):
        for net in round_nets(712, 40, 4, 3):
            left = all_ring_states(net)
            while left:
                state, way = left[0], []
                for _ in range(turn_length(net)):
                    way.append(state)
                    state = stepped(net, state)
                self.assertEqual([state, len(set(way))], [left[0], len(way)])
                self.assertEqual([[where for where, _ in way].count(point) for point in range(net.points)], turn_visits(net))
                self.assertTrue(set(way) <= set(left))
                left = [one for one in left if one not in way]

    def test_two_rings(self):
        net = Net(0, [[0, 1], [1, 0]])
        self.assertEqual([is_ring_state(net, (0, (1, 1))), is_ring_state(net, (1, (1, 1)))], [False, False])
        self.assertEqual([is_ring_state(net, (0, (0, 0))), is_ring_state(net, (1, (0, 0)))], [True, True])
        self.assertEqual([is_ring_state(net, (0, (1, 0))), is_ring_state(net, (1, (1, 0)))], [True, False])
        self.assertEqual(all_ring_states(net), [(0, (0, 0)), (0, (1, 0)), (1, (0, 0)), (1, (0, 1))])

    def test_edges(self):
        self.assertEqual(all_ring_states(Net(0, [[0]])), [(0, (0,))])
        self.assertEqual(all_ring_states(Net(0, [[0, 0, 0]])), [(0, (0,)), (0, (1,)), (0, (2,))])
        found = all_ring_states(BOTH)
        self.assertEqual([found.__class__, {one.__class__ for one in found}, {one[1].__class__ for one in found}], [list, {tuple}, {tuple}])

    def test_settings_bound(self):
        full = Net(0, [[(at + 1) % 12, at] for at in range(12)])
        found = all_ring_states(full)
        self.assertEqual(many_settings(full), 4096)
        # Each point's last exit to itself but for those that lead on to it, or all of them in one ring.
        self.assertEqual([len(found), turn_length(full)], [24, 24])
        self.assertEqual(len(all_ring_states(Net(0, [[(at + 1) % 12] * 2 for at in range(12)]))), 12 * 4096)
        for net in (Net(0, [[1] * 6, [2] * 6, [3] * 6, [4] * 5, [0] * 4]), Net(0, [[(at + 1) % 13, at] for at in range(13)]), long_net(2)):
            self.assertGreater(many_settings(net), 4096)
            with self.assertRaises(TooMany) as caught:
                all_ring_states(net)
            self.assertEqual([caught.exception.what, caught.exception.limit], ["settings", 4096])


class Turns(unittest.TestCase):

    def assert_turns(self, net):
        rows = net.exits()
        told = turns(net)
        self.assertEqual(told.__class__, list)
        self.assertTrue(all(many >= 1 for many in told))
        self.assertEqual(gcd(*told), 1)
        for goal, row in enumerate(rows):
            self.assertEqual(told[goal] * len(row), sum(many * other.count(goal) for many, other in zip(told, rows)))
        self.assertEqual(turn_visits(net), [many * len(row) for many, row in zip(told, rows)])
        self.assertEqual(turn_length(net), sum(turn_visits(net)))

    def test_small_nets(self):
        greatest = 0
        for net in round_nets(721, 200, 6, 4):
            self.assert_turns(net)
            greatest = max(greatest, max(turns(net)))
        self.assertGreater(greatest, 10)

    def test_big_nets(self):
        for seed in range(20):
            self.assert_turns(long_net(seed))
        self.assert_turns(LINE)
        self.assertEqual(turns(LINE), [2 ** (16 - at) for at in range(17)] + [1])
        self.assertEqual(turns(Net(0, [[(at + 1) % 24] for at in range(24)])), [1] * 24)

    def test_edges(self):
        self.assertEqual([turns(Net(0, [[0]])), turn_visits(Net(0, [[0, 0]])), turn_length(Net(0, [[0] * 6]))], [[1], [2], 6])
        # Three tracks there, one back: the one point's exit is gone three times as often.
        self.assertEqual(turns(Net(0, [[1, 1, 1], [0]])), [1, 3])
        self.assertEqual(turns(Net(0, [[1], [0, 0, 0]])), [3, 1])
        self.assertEqual(turns(Net(0, [[1, 1], [0, 0]])), [1, 1])
        self.assertEqual(turns(Net(0, [[1, 1], [0, 0, 1, 1]])), [1, 1])
        self.assertEqual(turn_visits(Net(0, [[0, 0, 1, 1], [1, 1, 0]])), [4, 6])

    def test_by_expected_visits(self):
        for net in round_nets(722, 60, 5, 3):
            # What a train by chance does for long: each point's part is the same in the next step.
            visits = turn_visits(net)
            parts = [Fraction(many, sum(visits)) for many in visits]
            later = [Fraction(0)] * net.points
            for part, row in zip(parts, net.exits()):
                for goal in row:
                    later[goal] += part / len(row)
            self.assertEqual(later, parts)


class Settling(unittest.TestCase):

    def plain_settled(self, net, state):
        steps = 0
        while plain_comes_again(net.exits(), state) is None:
            state, _ = plain_steps(net.exits(), state, 1)
            steps += 1
        return steps, state

    def test_all_states(self):
        many = set()
        for net in round_nets(731, 60, 4, 3):
            for state in states_of(net):
                right = self.plain_settled(net, state)
                told = settled(net, state)
                self.assertEqual(told, right)
                self.assertEqual([told.__class__, told[1].__class__, told[1][1].__class__], [tuple] * 3)
                self.assertIs(is_ring_state(net, state), told[0] == 0)
                many.add(told[0])
        self.assertTrue(set(range(8)) <= many)

    def test_every_step_of_longer_ways(self):
        chance = random.Random(732)
        for net in round_nets(733, 150, 8, 3):
            state = (chance.randrange(net.points), tuple(chance.randrange(len(row)) for row in net.exits()))
            steps, last = settled(net, state)
            for at in range(steps):
                self.assertIs(is_ring_state(net, state), False)
                self.assertEqual(settled(net, state), (steps - at, last))
                state = stepped(net, state)
            self.assertEqual(state, last)
            self.assertIs(is_ring_state(net, state), True)
            self.assertEqual(settled(net, state), (0, state))

    def test_as_soon_as_all_points_are_left(self):
        for seed in range(10):
            net = long_net(seed)
            steps, last = settled(net, (0, (0,) * 24))
            _, gone = plain_steps(net.exits(), (0, (0,) * 24), 100000)
            self.assertTrue(all(map(any, gone)))
            self.assertEqual(last, plain_steps(net.exits(), (0, (0,) * 24), steps)[0])
            self.assertIs(is_ring_state(net, last), True)

    def test_just_a_hundred_thousand_steps(self):
        # A ring at the last point but one, which isn't come to for long.
        net = Net(0, [[0, at + 1] for at in range(16)] + [[16, 0]])
        state = (0, (0,) * 16 + (1,))
        far, steps = state, 0
        while not is_ring_state(net, far) and steps < 200000:
            near = min(4000, 200000 - steps)
            later, _ = plain_steps(net.exits(), far, near)
            if is_ring_state(net, later):
                break
            far, steps = later, steps + near
        while not is_ring_state(net, far):
            far, _ = plain_steps(net.exits(), far, 1)
            steps += 1
        self.assertGreater(steps, 100001)
        just, _ = plain_steps(net.exits(), state, steps - 100000)
        more, _ = plain_steps(net.exits(), state, steps - 100001)
        self.assertEqual(settled(net, just), (100000, far))
        self.assertEqual(settled(net, stepped(net, just)), (99999, far))
        for wrong in (more, state):
            with self.assertRaises(TooMany) as caught:
                settled(net, wrong)
            self.assertEqual([caught.exception.what, caught.exception.limit], ["steps", 100000])
        self.assert_ahead(net, just, more, far)

    def assert_ahead(self, net, just, more, far):
        """The same two states, asked how they go on."""
        length = turn_length(net)
        self.assertEqual(ahead(net, just, 100000), far)
        self.assertEqual(ahead(net, just, 99999), plain_steps(net.exits(), just, 99999)[0])
        self.assertEqual(ahead(net, just, 100000 + 10 ** 20 * length), far)
        self.assertEqual(ahead(net, stepped(net, just), 100000), stepped(net, far))
        self.assertEqual(ahead(net, stepped(net, just), 100000 + 7 * length), stepped(net, far))
        # If there are fewer steps than to the ring state, they count alone.
        self.assertEqual(ahead(net, more, 100000), plain_steps(net.exits(), more, 100000)[0])
        for state, times in ((just, 100001), (just, 100001 + length), (more, 100001), (more, MOST), (more, 100000 + length),
                             (stepped(net, just), 100001)):
            with self.assertRaises(TooMany) as caught:
                ahead(net, state, times)
            self.assertEqual([caught.exception.what, caught.exception.limit], ["steps", 100000])


class Ahead(unittest.TestCase):

    def test_short_times(self):
        for net in round_nets(741, 40, 4, 3):
            for state in states_of(net)[::3]:
                now = state
                for times in range(40):
                    told = ahead(net, state, times)
                    self.assertEqual(told, now)
                    self.assertEqual([told.__class__, told[1].__class__], [tuple, tuple])
                    now = stepped(net, now)

    def test_long_times(self):
        chance = random.Random(742)
        for net in round_nets(743, 60, 5, 3):
            length = turn_length(net)
            state = (chance.randrange(net.points), tuple(chance.randrange(len(row)) for row in net.exits()))
            steps, _ = settled(net, state)
            for extra in (0, 1, length - 1, chance.randrange(length)):
                right, _ = plain_steps(net.exits(), state, steps + extra)
                for times in (1, 10 ** 6, 10 ** 18, 10 ** 28 // length):
                    self.assertEqual(ahead(net, state, steps + extra + times * length), right)

    def test_thirty_digits(self):
        for net in (BOTH, TWO, Net(0, [[0]]), Net(0, [[1, 1, 1], [0]]), long_net(3)):
            state = (0, (0,) * net.points)
            steps, last = settled(net, state)
            if turn_length(net) < 90000:
                right, _ = plain_steps(net.exits(), last, (MOST - steps) % turn_length(net))
                self.assertEqual(ahead(net, state, MOST), right)

    def test_long_turns(self):
        # A whole turn has 262,143 steps; of these just so many may be left over.
        length = turn_length(LINE)
        state = all_first(LINE)
        self.assertEqual(length, 2 ** 18 - 1)
        self.assertIs(is_ring_state(LINE, state), True)
        self.assertEqual(ahead(LINE, state, 5 * length), state)
        self.assertEqual(ahead(LINE, state, 5 * length + 100000), plain_steps(LINE.exits(), state, 100000)[0])
        for times in (100001, 5 * length + 100001, 5 * length - 1):
            with self.assertRaises(TooMany):
                ahead(LINE, state, times)


def all_first(net):
    """A ring state with each point's first exit next: all last exits lead on, so the ring goes through all."""
    return 0, (0,) * net.points


if __name__ == "__main__":
    unittest.main()
