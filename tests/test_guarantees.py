"""The guarantees [4], each across the files that it speaks of: on small nets by plain runs, on great ones by papers and closed forms."""

import itertools
import random
import unittest

from flippedpoints.claims import contrary, is_paper_of, is_true, paper_of
from flippedpoints.crowds import by_sequence, crowd_of, is_empty, moves, visits_by
from flippedpoints.cuts import good_cut
from flippedpoints.desk import Desk
from flippedpoints.fast import fast_flow, fast_flow_by, long_run, sent
from flippedpoints.judges import is_arrive_paper, is_crowd_paper, is_never_paper, is_own_paper
from flippedpoints.least import flows_below, is_least_flow, least_flow, reduced
from flippedpoints.lost import entered, is_shut, lost_by, lost_points, never_ends
from flippedpoints.machine import ran, run_visits
from flippedpoints.mends import by_settings, fewest_turned, longest
from flippedpoints.nets import Net, leads_to, renumbered, target_of
from flippedpoints.papers import arrive_paper, crowd_paper, never_paper, own_paper
from flippedpoints.pieces import Piece, alike, parting
from flippedpoints.plugging import plugged
from flippedpoints.readers import net_of, net_text
from flippedpoints.rounds import ahead, all_ring_states, is_ring_state, settled, turn_length
from flippedpoints.shares import come_bounds, come_by_tilt, share
from flippedpoints.texts import read, written
from flippedpoints.timetable import last_passed, passed, where_at
from flippedpoints.trees import all_trees, is_tree, many_trees, period, sent_back, sent_times, tree_behind
from flippedpoints.visits import behind, come, has_ring
from tests.support import big_net, far_come, far_is_least, one_at, plain_entered, plain_lost, plain_run, plain_visits, random_nets, trapped

# Twenty points, sixty tracks: one of three trains goes on from each point, all others begin anew.
ROW = Net(3, [[0, 0, at + 1] for at in range(19)] + [[-1, -2, -3]])
LINE = Net(1, [[0, at + 1] for at in range(23)] + [[0, -1]])


def settings_of(net):
    return [list(setting) for setting in itertools.product(*[range(len(row)) for row in net.exits()])]


def small_cut_nets(seed, many, **kinds):
    return [(net, setting) for net, setting in random_nets(seed, many, **kinds) if len(good_cut(net)) <= 4]


class Arrives(unittest.TestCase):

    def test_just_one_of_both_papers(self):
        kinds = []
        for net, setting in random_nets(1001, 150, points=4, exits=3, ends=3):
            lost = plain_lost(net.ends, net.exits())
            for begin in range(net.points):
                where, _ = plain_entered(net.exits(), setting, begin, lost)
                arrivals = [arrive_paper(net, setting, begin, end) for end in range(net.ends)]
                never = never_paper(net, setting, begin)
                self.assertEqual([paper is not None for paper in arrivals] + [never is not None],
                                 [where == -1 - end for end in range(net.ends)] + [where >= 0])
                for end, paper in enumerate(arrivals):
                    self.assertIs(is_arrive_paper(net, setting, begin, end, paper), paper is not None)
                self.assertIs(is_never_paper(net, setting, begin, never), where >= 0)
                self.assertEqual([never_ends(net, setting, begin), entered(net, setting, begin)[0], own_paper(net, setting, begin) is None],
                                 [where >= 0, "lost" if where >= 0 else "end", where >= 0])
                # All flows that can be found tell the same: they come to the train's end, and to no other one.
                for flow in flows_below(net, setting, one_at(net.points, begin), 4):
                    self.assertEqual([is_arrive_paper(net, setting, begin, end, flow) for end in range(net.ends)],
                                     [where == -1 - end for end in range(net.ends)])
                for size in range(1, net.points + 1):
                    for lot in itertools.combinations(range(net.points), size):
                        if where < 0 and is_shut(net, lot):
                            self.assertFalse(any(is_never_paper(net, setting, begin, (list(lot), list(visits)))
                                                 for visits in itertools.product(range(3), repeat=net.points)))
                kinds.append(where >= 0)
        self.assertGreater(min(kinds.count(True), kinds.count(False)), 50)

    def test_great_nets(self):
        for net, setting in ((ROW, [0] * 20), (LINE, [0] * 24), (LINE, [1] * 24), (trapped(2, 24, 1), [0] * 24), (trapped(6, 24, 3), [0] * 24),
                             (Net(1, [[0, 0, at + 1] for at in range(18)] + [[0, -1, 19], [19] * 3]), [0] * 18 + [2, 0])):
            for begin in (0, net.points // 2):
                papers = [arrive_paper(net, setting, begin, end) for end in range(net.ends)] + [never_paper(net, setting, begin)]
                self.assertEqual(len([paper for paper in papers if paper is not None]), 1)
                claim = ("ends", net, setting, begin)
                true = claim if is_true(claim) else contrary(claim)
                self.assertEqual([is_true(contrary(true)), is_paper_of(true, paper_of(true)), paper_of(contrary(true))], [False, True, None])
                self.assertEqual(is_true(claim), papers[-1] is None)
                # Papers also hold for the net and the setting that are read again from their texts, and renumbered.
                twin = read("net", written("net", net_of(net_text(net))))
                self.assertIs(is_paper_of((true[0], twin) + true[2:], paper_of(true)), True)
        for seed in range(20):
            net, setting = big_net(seed)
            where, _, tracks = plain_run(net.exits(), setting, 0, 10 ** 5)
            visits = run_visits(net, setting, 0, len(tracks))
            # Of these no paper is told, as each cut is too great; but the run's own visits are one.
            self.assertEqual([is_arrive_paper(net, setting, 0, end, visits) for end in range(2)], [where == -1, where == -2])
            self.assertEqual(is_own_paper(net, setting, 0, visits), True)

    def test_all_settings(self):
        for net, setting in small_cut_nets(1002, 60, points=4, exits=3, ends=2):
            for begin in range(net.points):
                told = [entered(net, one, begin) for one in settings_of(net)]
                self.assertEqual(by_settings(net, begin), [told.count(("end", end)) for end in range(net.ends)]
                                 + [len([1 for word, _ in told if word == "lost"])])
                for end in range(net.ends):
                    mends = fewest_turned(net, setting, begin, end)
                    self.assertEqual(mends is None, ("end", end) not in told)
                    if mends is not None:
                        self.assertTrue(all(arrive_paper(net, one, begin, end) is not None for one in mends[1]))


class Least(unittest.TestCase):

    def test_all_sequences(self):
        chance = random.Random(1011)
        for net, setting in random_nets(1012, 80, points=4, exits=3, ends=2, leading=True):
            starts = [chance.randrange(4) for _ in range(net.points)]
            flow = least_flow(net, setting, starts)
            self.assertEqual(plain_visits(net.exits(), setting, starts, 10 ** 6)[0], flow)
            crowd = crowd_of(net, setting, starts)
            for rule in ("least", "greatest", "rounds"):
                self.assertEqual(visits_by(net, crowd, rule, 10 ** 5), flow)
            sequence, later = [], crowd
            while not is_empty(net, later) and len(sequence) < 400:
                sequence.append(chance.choice(moves(net, later)))
                later = by_sequence(net, later, sequence[-1:])
            self.assertEqual([sequence.count(point) for point in range(net.points)], flow)
            self.assertEqual([list(later[1]), list(later[2])], [behind(net, setting, flow), come(net, setting, flow)])

    def test_just_the_flows_without_a_ring(self):
        numbers = []
        for net, setting in random_nets(1013, 100, points=3, exits=3, ends=2, leading=True):
            for starts in ([1] * net.points, one_at(net.points, 0)):
                flow = least_flow(net, setting, starts)
                for other in flows_below(net, setting, starts, 9):
                    right = other == flow
                    self.assertEqual([has_ring(net, setting, other), is_least_flow(net, setting, starts, other)], [not right, right])
                    self.assertEqual([reduced(net, setting, starts, other), far_is_least(net.exits(), setting, starts, other)], [flow, right])
                    self.assertEqual([is_true(("least", net, setting, starts, other)), is_true(("more", net, setting, starts, other))], [right, not right])
                    self.assertIs(is_crowd_paper(net, setting, starts, (other, come(net, setting, other))), right)
                    numbers.append(right)
        self.assertGreater(min(numbers.count(True), numbers.count(False)), 100)

    def test_great_nets(self):
        chance = random.Random(1014)
        for net in (ROW, LINE):
            setting = [chance.randrange(len(row)) for row in net.exits()]
            starts = [chance.randrange(10 ** 15) for _ in range(net.points)]
            flow, arrived = crowd_paper(net, setting, starts)
            self.assertEqual([far_is_least(net.exits(), setting, starts, flow), far_come(net.ends, net.exits(), setting, flow), sum(arrived)],
                             [True, arrived, sum(starts)])
            claim = ("least", net, setting, starts, flow)
            self.assertEqual([is_true(claim), is_paper_of(claim, paper_of(claim))], [True, True])
            # Trains of the same beginnings, some of them first: the same visits and the same settings.
            first = [many // 3 for many in starts]
            begun = fast_flow(net, setting, first)
            rest = fast_flow(net, behind(net, setting, begun), [one - two for one, two in zip(starts, first)])
            self.assertEqual([one + two for one, two in zip(begun, rest)], flow)


class Fast(unittest.TestCase):

    def test_like_the_plain_way(self):
        for net, setting in small_cut_nets(1021, 80, points=5, exits=3, ends=2, leading=True):
            for begin in range(net.points):
                where, marks, tracks = plain_run(net.exits(), setting, begin, 10 ** 5)
                state, steps = ran(net, setting, begin, 10 ** 5)
                self.assertEqual([state, steps], [(where, marks), len(tracks)])
                end, steps, visits = long_run(net, setting, begin)
                self.assertEqual([end, steps, visits], [-1 - where, len(tracks), run_visits(net, setting, begin, 10 ** 5)])
                starts = one_at(net.points, begin)
                self.assertEqual([least_flow(net, setting, starts), fast_flow_by(net, setting, starts, good_cut(net)), own_paper(net, setting, begin)],
                                 [visits] * 3)
                self.assertEqual([sent(net, setting, starts)[0], sent_times(net, setting, begin, 1)], [list(marks)] * 2)
                self.assertEqual([passed(net, setting, begin, track) for track in range(net.many)], [tracks.count(track) for track in range(net.many)])
                for at in range(0, steps + 2, 3):
                    self.assertEqual(where_at(net, setting, begin, at), ([begin] + [target_of(net, track) for track in tracks] + [where] * 3)[at])
                self.assertEqual(max(last_passed(net, setting, begin, track) or 0 for track in range(net.many)), steps)
                self.assertEqual(Desk.again(["net p " + net_text(net)[:-1].replace("\n", "; "), "set p " + ",".join(map(str, setting))])(f"long p {begin}"),
                                 f"{end} {steps}")

    def test_runs_that_nobody_could_follow(self):
        self.assertEqual(long_run(LINE, [0] * 24, 0), (0, 2 ** 25 - 2, [2 ** (24 - at) for at in range(24)]))
        steps = sum(3 ** (19 - at) for at in range(20))
        end, many, visits = long_run(ROW, [0] * 20, 0)
        self.assertEqual([end, many, visits], [0, steps, [3 ** (19 - at) for at in range(20)]])
        self.assertGreater(steps, 10 ** 9)
        self.assertEqual(sent(ROW, [0] * 20, [3 * 10 ** 20] + [0] * 19), ([0] * 20, [10 ** 20] * 3))
        self.assertEqual([longest(Net(1, [[0, at + 1] for at in range(11)] + [[0, -1]]), 0)[0], long_run(Net(1, [[0, at + 1] for at in range(11)] + [[0, -1]]),
                                                                                                       [0] * 12, 0)[1]], [8190, 8190])


class Shares(unittest.TestCase):

    def test_share_and_tilts(self):
        chance = random.Random(1031)
        for net, setting in small_cut_nets(1032, 100, points=4, exits=3, ends=3, leading=True):
            for starts in ([chance.randrange(9) for _ in range(net.points)], [chance.randrange(10 ** 20) for _ in range(net.points)]):
                arrived = sent(net, setting, starts)[1]
                if sum(starts) < 40:
                    visits, _ = plain_visits(net.exits(), setting, starts, 10 ** 6)
                    self.assertEqual(far_come(net.ends, net.exits(), setting, visits), arrived)
                for end in range(net.ends):
                    least, greatest = come_bounds(net, starts, end)
                    self.assertEqual(come_by_tilt(net, setting, starts, end), arrived[end])
                    self.assertTrue(least <= arrived[end] <= greatest)
            for point in range(net.points):
                parts = [share(net, end)[point] for end in range(net.ends)]
                whole = 1
                for _, beneath in parts:
                    whole *= beneath
                self.assertEqual(sum(over * (whole // beneath) for over, beneath in parts), whole)

    def test_great_nets(self):
        for end in range(3):
            self.assertEqual([share(ROW, end)[at] for at in (0, 19)], [(1, 3)] * 2)
            self.assertEqual([come_by_tilt(ROW, [0] * 20, [10 ** 20] + [0] * 19, end), sent(ROW, [0] * 20, [10 ** 20] + [0] * 19)[1][end]],
                             [10 ** 20 // 3 + (end == 0)] * 2)


class Again(unittest.TestCase):

    def test_trees_and_no_others(self):
        for net, _ in small_cut_nets(1041, 60, points=3, exits=3, ends=2, leading=True):
            trees = all_trees(net)
            self.assertEqual([len(trees), [one for one in settings_of(net) if is_tree(net, one)]], [many_trees(net), trees])
            for setting in settings_of(net):
                rounds, tree = tree_behind(net, setting)
                self.assertEqual([tree in trees, rounds == 0], [True, setting in trees])
                for begin in range(net.points):
                    times = period(net, begin)
                    if setting in trees:
                        self.assertEqual([sent_times(net, setting, begin, times * many) for many in (1, 10 ** 18)], [setting] * 2)
                        self.assertFalse(any(sent_times(net, setting, begin, many) == setting for many in range(1, min(times, 40))))
                        self.assertEqual(sent_times(net, sent_back(net, setting, begin), begin, 1), setting)
                if setting not in trees:
                    # Sent from each point again and again, trains come round among trees alone.
                    marks = setting
                    for _ in range(30):
                        for begin in range(net.points):
                            marks = list(plain_run(net.exits(), marks, begin, 10 ** 5)[1])
                        self.assertIn(marks, trees)

    def test_ring_states_and_no_others(self):
        for net, setting in random_nets(1042, 200, points=3, exits=3, ends=0):
            # From each point to each other one.
            if any(len(leads_to(net, point)) < net.points for point in range(net.points)):
                continue
            length, rings = turn_length(net), all_ring_states(net)
            self.assertEqual(len(rings) % length, 0)
            for marks in settings_of(net):
                for point in range(net.points):
                    state = (point, tuple(marks))
                    self.assertEqual([is_ring_state(net, state), ahead(net, state, length) == state], [state in rings] * 2)
                    steps, ring = settled(net, state)
                    self.assertEqual([ring in rings, ahead(net, state, steps), ahead(net, state, steps + 10 ** 15 * length)], [True, ring, ring])


class Pieces(unittest.TestCase):

    def test_alike_in_all_nets(self):
        chance = random.Random(1051)
        nets = [(net, setting) for net, setting in random_nets(1052, 400, points=2, exits=3, ends=2, leading=True) if net.ends == 2]
        pieces = [Piece(net, setting, [chance.randrange(net.points)]) for net, setting in nets[:14]]
        hosts = [Piece(net, setting, [chance.randrange(net.points)]) for net, setting in nets[60:66]]
        seen = []
        for one, two in itertools.combinations(pieces, 2):
            apart = parting(one, two)
            self.assertEqual([alike(one, two), is_true(("alike", one, two)), is_true(("parted", one, two))], [apart is None] * 2 + [apart is not None])
            seen.append(apart is None)
            if apart is None:
                for host in hosts:
                    for end in range(2):
                        ahead_of, other = plugged(host, end, one, 0), plugged(host, end, two, 0)
                        self.assertEqual([alike(ahead_of, other), ahead_of.outputs([10 ** 12 + 1])], [True, other.outputs([10 ** 12 + 1])])
                        self.assertIs(alike(plugged(one, end, host, 0), plugged(two, end, host, 0)), True)
            else:
                self.assertNotEqual(one.outputs(apart), two.outputs(apart))
                self.assertTrue(all(one.outputs([many]) == two.outputs([many]) for many in range(apart[0])))
        self.assertGreater(min(seen.count(True), seen.count(False)), 3)

    def test_great_nets(self):
        # The long row lets trains out by turns of three ends, as one point does.
        long, short = Piece(ROW, [0] * 20, [0]), Piece(Net(3, [[-1, -2, -3]]), [0], [0])
        self.assertEqual([alike(long, short), parting(long, short.behind([1])), long.outputs([10 ** 20]), short.outputs([10 ** 20])],
                         [True, [1], [10 ** 20 // 3 + 1] + [10 ** 20 // 3] * 2, [10 ** 20 // 3 + 1] + [10 ** 20 // 3] * 2])
        claim = ("alike", long, short)
        self.assertEqual([is_true(claim), len(paper_of(claim)), is_paper_of(claim, paper_of(claim))], [True, 3, True])
        self.assertEqual(read("piece", written("piece", long)), long)
        turned = Piece(renumbered(ROW, list(range(19, -1, -1))), [0] * 20, [19])
        self.assertIs(alike(long, turned), True)


class Lost(unittest.TestCase):

    def test_crowds_that_are_lost(self):
        for net, setting in small_cut_nets(1061, 80, points=4, exits=3, ends=2, leading=False):
            starts = [2] * net.points
            lost, gone, marks = lost_points(net), 0, list(setting)
            for begin, many in enumerate(starts):
                for _ in range(many):
                    where = begin
                    while where >= 0 and where not in lost:
                        spot = marks[where]
                        marks[where] = (spot + 1) % len(net.exits()[where])
                        where = net.exits()[where][spot]
                    gone += where >= 0
            self.assertEqual(lost_by(net, setting, starts), gone)


if __name__ == "__main__":
    unittest.main()
