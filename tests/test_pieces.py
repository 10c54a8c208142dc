"""Pieces: what comes out of them, whether they are alike, and by which inputs they are parted [8a1] to [8a3]."""

import itertools
import random
import unittest

from flippedpoints.cuts import good_cut
from flippedpoints.errors import InvalidEntrances, InvalidInputs, InvalidNet, InvalidPiece, InvalidSetting, NotLeading
from flippedpoints.errors import TooMany, UnlikeShapes
from flippedpoints.nets import Net, is_leading
from flippedpoints.pieces import Piece, alike, parting
from flippedpoints.plugging import plugged
from tests.support import HUGE, PAIR, Call, CallTests, kinds_of, spoil, strange_but
from tests.support import big_net, far_come, far_is_least, plain_visits, random_nets, wrong_nets, wrong_numbers, wrong_pieces
from tests.support import wrong_settings

TWO = Net(2, [[1, -1], [0, 1, -2]])
PIECE = Piece(TWO, [0, 1], [1, 0])
OTHER = Piece(Net(2, [[0, -1, -2]]), [2], [0])
TURNS = Piece(Net(2, [[-1, -2]]), [0], [0])
MOST = HUGE - 1
FIVE = Net(2, [[at, -1, -2] for at in range(5)])


def wrong_entrances():
    rows = [[], [2], [0, 2], [-1], [0, -1], [0, 0], [1, 0, 1], [True], [False], [0, True], [None], ["0"], [[0]], [(0,)], [{}],
            [HUGE], [PAIR], [0, 1, 2, 3, 4], [0, 1, 0, 1]]
    return [make(row) for row in rows for make in (list, tuple)] + strange_but(list, tuple) + [{0}, {0: 1}, "01", b"01", iter([0])]


def of_row(ends, exits, setting, entrances):
    return Piece(Net(ends, exits), setting, entrances)


def product(sizes):
    told = 1
    for size in sizes:
        told *= size
    return told


def counter(sizes, last=-1):
    """Of so many trains as the product tells the last one alone comes to the last exit of all."""
    rows = [[-1] * (size - 1) + [at + 1] for at, size in enumerate(sizes)]
    rows[-1][-1] = last
    return of_row(2, rows, [0] * len(sizes), [0])


def plain_piece(ends, exits, setting, inputs, entrances):
    """What comes to each end and the setting behind, train by train."""
    starts = [0] * len(exits)
    for point, many in zip(entrances, inputs):
        starts[point] += many
    visits, marks = plain_visits(exits, setting, starts, 10 ** 6)
    return far_come(ends, exits, setting, visits), list(marks)


def plain_outputs(piece, inputs):
    return plain_piece(piece.net().ends, piece.net().exits(), piece.setting(), inputs, piece.entrances())[0]


def inputs_of(doors, most):
    """All inputs of so many trains at most: fewest first, then as lists are sorted."""
    rows = [list(row) for row in itertools.product(range(most + 1), repeat=doors) if sum(row) <= most]
    return sorted(rows, key=lambda row: (sum(row), row))


def some_pieces(seed, many, doors=None, cut=4, **kinds):
    chance = random.Random(seed)
    for net, setting in random_nets(seed, many, leading=True, **kinds):
        if len(good_cut(net)) <= cut:
            least = min(4, net.points) if doors is None else doors
            if net.points >= least:
                size = chance.randint(1, least) if doors is None else doors
                yield Piece(net, setting, chance.sample(range(net.points), size))


class PieceCalls(CallTests, unittest.TestCase):

    def calls(self):
        inputs = {"inputs": (InvalidInputs, wrong_numbers([3, 5]))}
        both = {"piece": (InvalidPiece, wrong_pieces()), "other": (InvalidPiece, wrong_pieces())}
        return [
            Call(Piece, {"net": TWO, "setting": [0, 1], "entrances": [1, 0]},
                 {"net": (InvalidNet, wrong_nets()), "setting": (InvalidSetting, wrong_settings(TWO, [0, 1])),
                  "entrances": (InvalidEntrances, wrong_entrances())}),
            Call(PIECE.outputs, {"inputs": [3, 5]}, inputs),
            Call(PIECE.behind, {"inputs": [3, 5]}, inputs),
            Call(PIECE.net, {}),
            Call(PIECE.setting, {}),
            Call(PIECE.entrances, {}),
            Call(alike, {"piece": TURNS, "other": OTHER}, both),
            Call(parting, {"piece": TURNS, "other": OTHER}, both),
        ]

    def assert_raises(self, error, function, *arguments):
        with self.assertRaises(error) as caught:
            function(*arguments)
        self.assertIs(caught.exception.__class__, error)
        return caught.exception

    def test_entrances_of_more_points(self):
        net = Net(1, [[-1]] * 6)
        for entrances in ([0], [5, 0], [2, 1, 0], [3, 1, 5, 0], (4,), (0, 1, 2, 3)):
            self.assertEqual(Piece(net, [0] * 6, entrances).entrances(), list(entrances))
        for entrances in ([0, 1, 2, 3, 4], [0, 1, 2, 0], (5, 5), [6], [0, 1, 2, 6]):
            self.assertIs(self.assert_raises(InvalidEntrances, Piece, net, [0] * 6, entrances).value, entrances)

    def test_not_leading(self):
        lost = Net(1, [[1, -1], [1]])
        for net in (lost, Net(0, [[0], [0]])):
            self.assert_raises(NotLeading, Piece, net, [0, 0], [0])
            self.assert_raises(InvalidEntrances, Piece, net, [0, 0], [2])
            self.assert_raises(InvalidSetting, Piece, net, [0, 2], [2])

    def test_great_cuts(self):
        # A piece is made and told; but not what comes out of it.
        great = Piece(FIVE, [0] * 5, [0, 4])
        self.assertEqual([great.setting(), great.entrances(), great == Piece(FIVE, (0,) * 5, (0, 4))], [[0] * 5, [0, 4], True])
        small = Piece(Net(2, [[0, -1, -2]] * 2), [0, 0], [0, 1])
        for function, arguments in ((great.outputs, ([1, 0],)), (great.behind, ([0, 0],)), (alike, (great, great)),
                                    (parting, (great, great)), (alike, (great, small)), (alike, (small, great)),
                                    (parting, (small, great)), (parting, (great, small))):
            error = self.assert_raises(TooMany, function, *arguments)
            self.assertEqual([error.what, error.limit], ["cut", 4])
        self.assert_raises(InvalidInputs, great.outputs, [1])
        self.assert_raises(InvalidInputs, great.behind, [1, -1])
        for other in (Piece(FIVE, [0] * 5, [0]), Piece(Net(3, FIVE.exits()), [0] * 5, [0, 4])):
            for function in (alike, parting):
                self.assert_raises(UnlikeShapes, function, great, other)
                self.assert_raises(UnlikeShapes, function, other, great)
        four = Piece(Net(1, [[at, -1] for at in range(4)] + [[-1]]), [1, 1, 1, 1, 0], [0, 4])
        self.assertEqual([four.outputs([2, 3]), four.behind([1, 0]).setting(), alike(four, four)], [[5], [0, 1, 1, 1, 0], True])

    def test_unlike_shapes(self):
        for one, two in ((PIECE, TURNS), (TURNS, Piece(Net(1, [[-1]]), [0], [0])), (TURNS, Piece(Net(3, [[-1, -2]]), [0], [0]))):
            for function in (alike, parting):
                self.assert_raises(UnlikeShapes, function, one, two)
                self.assert_raises(UnlikeShapes, function, two, one)
        # As many of both are enough, whatever the points.
        self.assertIs(alike(Piece(Net(2, [[-1]]), [0], [0]), Piece(Net(2, [[2], [1, 0], [1, -1]]), [0, 0, 0], [1])), True)


class PieceTests(unittest.TestCase):

    def test_parts_are_copied(self):
        setting, entrances, inputs = [0, 1], [1, 0], [3, 5]
        piece = Piece(TWO, setting, entrances)
        held, told = kinds_of(piece), piece.outputs(inputs)
        spoil([setting, entrances, inputs])
        setting[0] = 1
        entrances[:] = []
        spoil([piece.setting(), piece.entrances(), piece.net().exits(), piece.outputs([3, 5]), piece.behind([3, 5]).setting()])
        self.assertEqual([kinds_of(piece), piece.outputs([3, 5])], [held, told])
        self.assertEqual(held, [Piece, kinds_of(TWO), [0, 1], [1, 0]])

    def test_parts_are_lists(self):
        piece = Piece(TWO, (0, 1), (1, 0))
        self.assertEqual(kinds_of(piece), kinds_of(PIECE))
        self.assertEqual(piece, PIECE)
        behind = piece.behind((3, 5))
        self.assertEqual([behind.__class__, behind.setting().__class__, behind.entrances(), behind.net() == TWO],
                         [Piece, list, [1, 0], True])
        self.assertEqual(kinds_of(PIECE.behind([0, 0])), kinds_of(PIECE))

    def test_equality(self):
        again = Piece(Net(2, [(1, -1), (0, 1, -2)]), (0, 1), (1, 0))
        self.assertIs(PIECE == again, True)
        self.assertIs(PIECE != again, False)
        for other in (Piece(TWO, [0, 2], [1, 0]), Piece(TWO, [0, 1], [0, 1]), Piece(TWO, [0, 1], [1]),
                      Piece(Net(3, TWO.exits()), [0, 1], [1, 0]), Piece(Net(2, [[1, -1], [0, -2, 1]]), [0, 1], [1, 0])):
            self.assertIs(PIECE == other, False)
            self.assertIs(other == PIECE, False)
            self.assertIs(PIECE != other, True)
        for other in strange_but(Piece) + [(TWO, [0, 1], [1, 0]), TWO]:
            self.assertIs(PIECE == other, False)
            self.assertIs(PIECE != other, True)
        # Alike pieces may be unlike.
        self.assertIs(TURNS == Piece(Net(2, [[-1, -2, -1, -2]]), [0], [0]), False)

    def test_outputs_and_behind(self):
        chance = random.Random(811)
        for piece in some_pieces(812, 120, points=4, exits=4, ends=4):
            net = piece.net()
            for _ in range(4):
                inputs = [chance.choice([0, 0, 1, 2, 7, 40]) for _ in piece.entrances()]
                come, marks = plain_piece(net.ends, net.exits(), piece.setting(), inputs, piece.entrances())
                told, behind = piece.outputs(inputs), piece.behind(inputs)
                self.assertEqual([told, told.__class__, sum(told)], [come, list, sum(inputs)])
                self.assertEqual(kinds_of(behind), [Piece, kinds_of(net), marks, piece.entrances()])
                # Inputs put together are the first ones and, of the piece behind them, the further ones.
                more = [chance.choice([0, 1, 3, 10 ** 25]) for _ in inputs]
                both = [one + two for one, two in zip(inputs, more)]
                self.assertEqual(piece.outputs(both), [one + two for one, two in zip(told, behind.outputs(more))])
                self.assertEqual(piece.behind(both), behind.behind(more))

    def test_inputs_of_nothing_and_of_thirty_digits(self):
        self.assertEqual([TURNS.outputs([0]), TURNS.behind([0]) == TURNS, TURNS.outputs((0,))], [[0, 0], True, [0, 0]])
        self.assertEqual([TURNS.outputs([MOST]), TURNS.behind([MOST]).setting()], [[MOST // 2 + 1, MOST // 2], [1]])
        both = Piece(Net(6, [[-6, -1, 1], [-2, 0, -6]]), [2, 1], [1, 0])
        self.assertEqual(sum(both.outputs([MOST, MOST])), 2 * MOST)
        self.assertEqual(both.outputs([MOST, MOST])[2:5], [0, 0, 0])

    def test_entrances_that_are_not_rising(self):
        net = Net(2, [[-1], [-2]])
        self.assertEqual([Piece(net, [0, 0], [0, 1]).outputs([3, 5]), Piece(net, [0, 0], [1, 0]).outputs([3, 5])], [[3, 5], [5, 3]])

    def test_points_that_are_no_entrance(self):
        self.assertEqual(Piece(Net(2, [[-1], [-2], [0]]), [0] * 3, [2]).outputs([4]), [4, 0])

    def test_big_nets(self):
        for seed in range(30):
            net, setting = big_net(seed, tracks=60 if seed % 3 else 36, ends=6 if seed % 2 else 2, reach=2 if seed % 4 else None)
            if len(good_cut(net)) > 4:
                continue
            piece = Piece(net, setting, [23, 0, 7, 12])
            inputs = [seed, 5, 10 ** 29, 1]
            starts = [0] * 24
            starts[23], starts[0], starts[7], starts[12] = inputs
            behind, told = piece.behind(inputs), piece.outputs(inputs)
            self.assertEqual(sum(told), sum(inputs))
            few = piece.outputs([seed, 5, 2, 1])
            visits, marks = plain_visits(net.exits(), setting, [seed * (at == 23) + 5 * (at == 0) + 2 * (at == 7) + (at == 12)
                                                               for at in range(24)], 10 ** 5)
            self.assertTrue(far_is_least(net.exits(), setting, [seed * (at == 23) + 5 * (at == 0) + 2 * (at == 7) + (at == 12)
                                                                for at in range(24)], visits))
            self.assertEqual([few, piece.behind([seed, 5, 2, 1]).setting()], [far_come(net.ends, net.exits(), setting, visits), marks])
            self.assertEqual(behind.behind([1, 0, 0, 0]), piece.behind([seed + 1] + inputs[1:]))

    def test_long_runs(self):
        # Each train leaves the first of these points 2 ** 24 times, and all stand as before.
        line = Piece(Net(1, [[0, at + 1] for at in range(23)] + [[0, -1]]), [0] * 24, [0])
        self.assertEqual([line.outputs([MOST]), line.behind([MOST]) == line, alike(line, Piece(Net(1, [[-1]]), [0], [0]))],
                         [[MOST], True, True])


    def test_alike_by_long_runs(self):
        # One train takes more than a thousand million steps; the last point lets them out by turns.
        row = Net(3, [[0, 0, at + 1] for at in range(19)] + [[-1, -2, -3]])
        for spot in range(3):
            long = Piece(row, [0] * 19 + [spot], [0])
            for other in range(3):
                short = Piece(Net(3, [[-1, -2, -3]]), [other], [0])
                self.assertEqual([alike(long, short), parting(short, long)], [spot == other, None if spot == other else [1]])
            self.assertEqual(parting(long, Piece(Net(3, [[-1, -2, -3, -1, -2, -2]]), [spot], [0])), [6 - spot])


class AlikeTests(unittest.TestCase):

    def assert_parted(self, one, two, most):
        """Hold them against all inputs of so many trains; whether they are parted by these."""
        told = parting(one, two)
        self.assertIs(alike(one, two), told is None)
        for inputs in inputs_of(len(one.entrances()), most):
            if plain_outputs(one, inputs) != plain_outputs(two, inputs):
                self.assertEqual([told, told.__class__], [inputs, list])
                self.assertEqual(parting(two, one), inputs)
                return True
        if told is not None:
            self.assertGreater(sum(told), most)
            self.assertNotEqual(plain_outputs(one, told), plain_outputs(two, told))
        return False

    def test_all_inputs(self):
        found = []
        for doors, most, points in ((1, 9, 2), (1, 9, 3), (2, 5, 2), (2, 4, 3), (3, 3, 3)):
            pieces = list(some_pieces(820 + doors * 10 + points, 400, doors=doors, points=points, exits=3, ends=2))
            pieces = [piece for piece in pieces if piece.net().ends == 2][:40]
            for one, two in zip(pieces, pieces[1:]):
                found.append(self.assert_parted(one, two, most))
            for one in pieces[:10]:
                found.append(self.assert_parted(one, one.behind([2] * doors), most))
        self.assertGreater(min(found.count(True), found.count(False)), 5)

    def test_doubled_exits_are_alike(self):
        for piece in some_pieces(831, 40, points=3, exits=3, ends=3):
            exits = piece.net().exits()
            twice = Piece(Net(piece.net().ends, [row * 2 for row in exits]), [spot + len(row) * (at % 2) for at, (spot, row)
                          in enumerate(zip(piece.setting(), exits))], piece.entrances())
            self.assertEqual([alike(piece, twice), parting(twice, piece)], [True, None])
            # Other numbers of the points make nothing else.
            last = len(exits) - 1
            rows = [[last - target if target >= 0 else target for target in row] for row in exits[::-1]]
            turned = Piece(Net(piece.net().ends, rows), piece.setting()[::-1], [last - door for door in piece.entrances()])
            self.assertEqual([alike(piece, turned), alike(turned, twice)], [True, True])

    def test_parted_behind_some_trains_only(self):
        for size in range(1, 7):
            one, two = (of_row(2, [[-1] * (size - 1) + [last]], [0], [0]) for last in (-1, -2))
            self.assertEqual([parting(one, two), parting(one, two.behind([size - 1])), alike(one, two)], [[size], [1], False])
        # One behind the other: only the last one of so many trains goes another way.
        plain = of_row(2, [[-1]], [0], [0])
        for sizes in ([6, 6, 6], [2] * 10, [1, 3, 1, 4]):
            self.assertEqual([parting(counter(sizes), plain), alike(plain, counter(sizes))], [None, True])
            self.assertEqual(parting(counter(sizes, -2), plain), [product(sizes)])
        # Exits in another sequence are told apart by more trains than one, though as many come to each end in the long run.
        one, two = of_row(2, [[-1, -2, -1, -2]], [0], [0]), of_row(2, [[-1, -2, -2, -1]], [0], [0])
        self.assertEqual([parting(one, two), parting(two, one)], [[3], [3]])
        both = [of_row(2, [[2, 2, -1], [2, -2, -2], [-1, -1, last]], [0] * 3, [0, 1]) for last in (-1, -2)]
        self.assertIs(self.assert_parted(both[0], both[1], 6), True)

    def test_of_least_inputs_the_least_list(self):
        # Three trains come to the last exit, whichever entrances they take.
        rows = [[2], [2], [-1, -1, -1]]
        one, two = (of_row(2, rows[:2] + [[-1, -1, last]], [0] * 3, [0, 1]) for last in (-1, -2))
        self.assertEqual([parting(one, two), parting(two, one)], [[0, 3], [0, 3]])
        one, two = (of_row(2, [[-1, 2], [2, -1], [-1, last, -1]], [0] * 3, [0, 1]) for last in (-1, -2))
        self.assertEqual([parting(one, two), plain_outputs(one, [1, 2]), plain_outputs(two, [1, 2])], [[0, 3], [3, 0], [3, 0]])
        self.assert_parted(one, two, 4)
        four = [of_row(2, [[4], [4], [4], [4], [-1, last]], [0] * 5, [3, 2, 1, 0]) for last in (-1, -2)]
        self.assertEqual(parting(*four), [0, 0, 0, 2])

    def test_all_ends_are_told_apart(self):
        for one, two in itertools.product(range(6), repeat=2):
            pieces = [of_row(6, [[-1 - end], [0, -4]], [0, 1], [1, 0]) for end in (one, two)]
            self.assertEqual(parting(*pieces), None if one == two else [0, 1])
        found = []
        pieces = [piece for piece in some_pieces(835, 200, doors=2, points=2, exits=3, ends=4) if piece.net().ends == 4][:30]
        for one, two in zip(pieces, pieces[1:]):
            found.append(self.assert_parted(one, two, 3))
        self.assertGreater(found.count(True), 20)

    def test_one_can_stand_for_the_other(self):
        chance = random.Random(841)
        pieces = [piece for piece in some_pieces(842, 300, doors=2, points=2, exits=3, ends=2) if piece.net().ends == 2][:12]
        hosts = [piece for piece in some_pieces(843, 60, doors=1, points=2, exits=3, ends=2) if piece.net().ends == 2][:6]
        for one, two in itertools.combinations(pieces, 2):
            if alike(one, two):
                for host in hosts:
                    inputs = [chance.randrange(20) for _ in range(2)]
                    self.assertEqual(plugged(host, 0, one, 1).outputs(inputs), plugged(host, 0, two, 1).outputs(inputs))
                    self.assertIs(alike(plugged(one, 1, host, 0), plugged(two, 1, host, 0)), True)

    def assert_many_pairs(self, one, two):
        for function in (alike, parting):
            with self.assertRaises(TooMany) as caught:
                function(one, two)
            self.assertEqual([caught.exception.what, caught.exception.limit], ["pairs", 4000])

    def test_pairs_bound(self):
        plain = of_row(2, [[-1]], [0], [0])
        just = counter([4, 5, 5, 5, 4, 2])
        self.assertEqual([alike(just, plain), parting(plain, just)], [True, None])
        self.assertEqual(parting(plain, counter([4, 5, 5, 5, 4, 2], -2)), [4000])
        # A last exit of the first point, to itself, comes again only ahead of the first train: one pair more, or none.
        rows = just.net().exits()
        rows[0].append(0)
        self.assertIs(alike(of_row(2, rows, [4] + [0] * 5, [0]), plain), True)
        self.assert_many_pairs(of_row(2, rows, [0] * 6, [0]), plain)
        # The pair behind 4000 trains is one too many, even if the next train were the first one that goes another way.
        longer = counter([6, 3, 3, 3, 5, 5], -2)
        self.assertEqual(parting(longer.behind([50]), plain), [4000])
        self.assert_many_pairs(longer.behind([49]), plain)
        # Both settings make the pairs: of 75 and of 64 there are 4800, of 45 and 64 only 2880, of 60 and 64 only 960.
        self.assert_many_pairs(counter([3, 5, 5]), counter([4, 4, 4]).behind([7]))
        self.assertIs(alike(counter([3, 3, 5]), counter([4, 4, 4])), True)
        self.assertIs(alike(counter([3, 4, 5]).behind([2]), counter([4, 4, 4])), True)

    def test_all_pairs_of_one_train_more_at_once(self):
        # The second train of those that come through the first two rows comes to the other end.
        def meeting(first, second, last):
            rows = [[-1] * (size - 1) + [at + 1] for at, size in enumerate(first + second)] + [[-1, last]]
            rows[len(first) - 1][-1] = len(rows) - 1
            return of_row(2, rows, [0] * len(rows), [0, len(first)])
        plain = of_row(2, [[-1], [-1]], [0, 0], [1, 0])
        self.assertEqual(parting(meeting([5, 4, 2], [5, 4, 4], -2), plain), [80, 0])
        # Behind 88 trains 3960 pairs have been looked at, behind 89 there are 80 more: the 90th train isn't looked at.
        self.assert_many_pairs(meeting([5, 3, 3], [5, 4, 4], -2), plain)


if __name__ == "__main__":
    unittest.main()
