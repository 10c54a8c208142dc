"""Pieces plugged into one another and looped [8a4], [8a5]."""

import random
import unittest

from flippedpoints.cuts import good_cut
from flippedpoints.errors import InvalidEnd, InvalidEntrance, InvalidPiece, NotLeading, TooMany
from flippedpoints.nets import Net, is_leading
from flippedpoints.pieces import Piece, alike
from flippedpoints.plugging import looped, plugged
from tests.support import HUGE, Call, CallTests, kinds_of
from tests.support import plain_visits, random_nets, wrong_indexes, wrong_pieces

TWO = Piece(Net(2, [[1, -1], [0, 1, -2]]), [0, 1], [1, 0])
THREE = Piece(Net(3, [[-1, 1, -3], [-2, 0]]), [2, 1], [0])
TURNS = Piece(Net(2, [[-1, -2]]), [0], [0])
PIECES = (InvalidPiece, wrong_pieces())


def parts(piece):
    net = piece.net()
    return [net.ends, net.exits(), piece.setting(), piece.entrances()]


def plain_outputs(piece, inputs):
    """What comes to each end, train by train, and how often each exit is gone."""
    ends, exits, setting, entrances = parts(piece)
    starts = [0] * len(exits)
    for point, many in zip(entrances, inputs):
        starts[point] += many
    visits, _ = plain_visits(exits, setting, starts, 10 ** 6)
    come = [0] * ends
    for row, spot, many in zip(exits, setting, visits):
        for at in range(many):
            target = row[(spot + at) % len(row)]
            if target < 0:
                come[-1 - target] += 1
    return come


def some_pieces(seed, many, **kinds):
    chance = random.Random(seed)
    for net, setting in random_nets(seed, many, leading=True, **kinds):
        yield Piece(net, setting, chance.sample(range(net.points), chance.randint(1, min(4, net.points))))


def wide(ends=1, points=1, tracks=None, entrances=1):
    """A piece of so many ends, points, tracks and entrances."""
    rows = [[-1] for _ in range(points)]
    for at in range(0 if tracks is None else tracks - points):
        rows[at % points].append(-1 - at % ends)
    return Piece(Net(ends, rows), [len(row) - 1 for row in rows], list(range(entrances)))


class PluggingCalls(CallTests, unittest.TestCase):

    def calls(self):
        return [
            Call(plugged, {"piece": THREE, "end": 1, "other": TWO, "entrance": 0},
                 {"piece": PIECES, "end": (InvalidEnd, wrong_indexes(3) + [-3]), "other": PIECES,
                  "entrance": (InvalidEntrance, wrong_indexes(2) + [-2])}),
            Call(looped, {"piece": TWO, "end": 1, "entrance": 1},
                 {"piece": PIECES, "end": (InvalidEnd, wrong_indexes(2) + [-2]), "entrance": (InvalidEntrance, wrong_indexes(2) + [-2])}),
        ]

    def assert_too_many(self, what, limit, *arguments):
        with self.assertRaises(TooMany) as caught:
            plugged(*arguments)
        self.assertEqual([caught.exception.what, caught.exception.limit], [what, limit])

    def test_whose_end_and_whose_entrance(self):
        # THREE has three ends and one entrance, TWO two ends and two entrances.
        self.assertEqual(plugged(THREE, 2, TWO, 1).net().points, 4)
        self.assertRaises(InvalidEnd, plugged, TWO, 2, THREE, 0)
        self.assertRaises(InvalidEntrance, plugged, TWO, 1, THREE, 1)
        self.assertRaises(InvalidEntrance, looped, THREE, 2, 1)

    def test_limits(self):
        self.assertEqual(plugged(wide(points=12), 0, wide(points=12), 0).net().points, 24)
        self.assert_too_many("points", 24, wide(points=12), 0, wide(points=13), 0)
        self.assert_too_many("points", 24, wide(points=24), 0, wide(), 0)
        self.assertEqual(plugged(wide(points=5, tracks=30), 0, wide(points=10, tracks=30), 0).net().many, 60)
        self.assert_too_many("tracks", 60, wide(points=5, tracks=30), 0, wide(points=10, tracks=31), 0)
        self.assertEqual(plugged(wide(ends=3), 2, wide(ends=4), 0).net().ends, 6)
        self.assertEqual(plugged(wide(ends=6), 2, wide(ends=1), 0).net().ends, 6)
        self.assert_too_many("ends", 6, wide(ends=3), 2, wide(ends=5), 0)
        self.assert_too_many("ends", 6, wide(ends=6), 0, wide(ends=2), 0)
        self.assertEqual(len(plugged(wide(points=2, entrances=2), 0, wide(points=3, entrances=3), 1).entrances()), 4)
        self.assertEqual(len(plugged(wide(points=4, entrances=4), 0, wide(), 0).entrances()), 4)
        self.assert_too_many("entrances", 4, wide(points=3, entrances=3), 0, wide(points=3, entrances=3), 1)
        self.assert_too_many("entrances", 4, wide(points=4, entrances=4), 0, wide(points=2, entrances=2), 1)

    def test_of_several_limits_the_first_one(self):
        great = wide(ends=6, points=13, tracks=55, entrances=4)
        self.assert_too_many("points", 24, great, 0, great, 0)
        fewer = wide(ends=6, points=11, tracks=6, entrances=4)
        self.assert_too_many("tracks", 60, great, 0, fewer, 0)
        less = wide(ends=6, points=4, tracks=4, entrances=4)
        self.assert_too_many("ends", 6, great, 0, less, 0)
        self.assert_too_many("entrances", 4, great, 0, wide(points=4, entrances=4), 0)
        self.assertRaises(InvalidEntrance, plugged, great, 0, great, 4)


class PluggedTests(unittest.TestCase):

    def test_parts(self):
        made = plugged(THREE, 1, TWO, 0)
        # The entrance 0 of TWO is its point 1, now 3; of THREE the ends 0 and 2 are left, then there are those of TWO.
        self.assertEqual(parts(made), [4, [[-1, 1, -2], [3, 0], [3, -3], [2, 3, -4]], [2, 1, 0, 1], [0, 2]])
        self.assertEqual(parts(plugged(THREE, 0, TWO, 1)), [4, [[2, 1, -2], [-1, 0], [3, -3], [2, 3, -4]], [2, 1, 0, 1], [0, 3]])
        self.assertEqual(parts(plugged(TWO, 1, THREE, 0)), [4, [[1, -1], [0, 1, 2], [-2, 3, -4], [-3, 2]], [0, 1, 2, 1], [1, 0]])
        self.assertEqual(made.__class__, Piece)

    def test_into_itself(self):
        self.assertEqual(parts(plugged(TURNS, 1, TURNS, 0)), [3, [[-1, 1], [-2, -3]], [0, 0], [0]])
        self.assertEqual(parts(plugged(TURNS, 0, TURNS, 0)), [3, [[1, -1], [-2, -3]], [0, 0], [0]])
        self.assertEqual(plugged(TURNS, 1, TURNS, 0).outputs([4]), [2, 1, 1])
        self.assertEqual(parts(TURNS), [2, [[-1, -2]], [0], [0]])
        # An end to which nothing leads may be plugged, too.
        self.assertEqual(parts(plugged(wide(ends=2), 1, wide(ends=1), 0)), [2, [[-1], [-2]], [0, 0], [0]])

    def test_outputs(self):
        chance = random.Random(851)
        pieces = list(some_pieces(852, 80, points=3, exits=3, ends=3))
        for one, two in zip(pieces, pieces[1:]):
            ends, doors = one.net().ends, len(two.entrances())
            if ends + two.net().ends > 7 or len(one.entrances()) + doors > 5:
                continue
            end, entrance = chance.randrange(ends), chance.randrange(doors)
            made = plugged(one, end, two, entrance)
            inputs = [chance.randrange(9) for _ in made.entrances()]
            first, rest = inputs[:len(one.entrances())], inputs[len(one.entrances()):]
            through = plain_outputs(one, first)
            further = plain_outputs(two, rest[:entrance] + [through[end]] + rest[entrance:])
            right = through[:end] + through[end + 1:] + further
            self.assertEqual([made.outputs(inputs), plain_outputs(made, inputs)], [right, right])
            self.assertEqual(made.setting(), one.setting() + two.setting())
            self.assertIs(is_leading(made.net()), True)

    def test_nothing_is_changed(self):
        held = [kinds_of(TWO), kinds_of(THREE)]
        made = plugged(THREE, 1, TWO, 0)
        made.setting().append(0)
        made.entrances().append(0)
        made.net().exits()[0].append(0)
        self.assertEqual([kinds_of(TWO), kinds_of(THREE), len(made.setting())], held + [4])

    def test_great_cuts(self):
        # A piece is made, though nothing can be told of what comes out of it.
        loops = Piece(Net(1, [[0, 1], [1, 2], [2, -1]]), [0] * 3, [0])
        made = plugged(loops, 0, loops, 0)
        self.assertEqual([len(good_cut(made.net())), made.entrances()], [6, [0]])
        self.assertRaises(TooMany, made.outputs, [1])


class LoopedTests(unittest.TestCase):

    def test_parts(self):
        self.assertEqual(parts(looped(TURNS, 1, 0)), [1, [[-1, 0]], [0], [0]])
        self.assertEqual(parts(looped(TURNS, 0, 0)), [1, [[0, -1]], [0], [0]])
        self.assertEqual(parts(looped(TWO, 0, 0)), [1, [[1, 1], [0, 1, -1]], [0, 1], [1, 0]])
        self.assertEqual(parts(looped(TWO, 0, 1)), [1, [[1, 0], [0, 1, -1]], [0, 1], [1, 0]])
        self.assertEqual(parts(looped(THREE, 1, 0)), [2, [[-1, 1, -2], [0, 0]], [2, 1], [0]])
        self.assertEqual(looped(TURNS, 1, 0).outputs([7]), [7])

    def test_not_leading(self):
        for piece, end, entrance in ((wide(), 0, 0), (wide(ends=2), 0, 0), (looped(TURNS, 1, 0), 0, 0),
                                     (Piece(Net(2, [[-1, 1], [-2]]), [0, 0], [1]), 1, 0)):
            with self.assertRaises(NotLeading) as caught:
                looped(piece, end, entrance)
            self.assertIs(caught.exception.__class__, NotLeading)
            self.assertRaises(InvalidEntrance, looped, piece, end, 1)
            self.assertRaises(InvalidEnd, looped, piece, 2, 1)
        # To a point that leads to another end all is well; nothing leads to the end 1 here.
        self.assertEqual(parts(looped(Piece(Net(2, [[-1, 1], [-2]]), [0, 0], [0]), 1, 0)), [1, [[-1, 1], [0]], [0, 0], [0]])
        self.assertEqual(parts(looped(wide(ends=2), 1, 0)), [1, [[-1]], [0], [0]])

    def test_outputs(self):
        chance = random.Random(861)
        many = 0
        for piece in some_pieces(862, 150, points=3, exits=4, ends=4):
            net = piece.net()
            end, entrance = chance.randrange(net.ends), chance.randrange(len(piece.entrances()))
            rows = [[piece.entrances()[entrance] if target == -1 - end else target + (target < -1 - end) for target in row]
                    for row in net.exits()]
            inputs = [chance.randrange(9) for _ in piece.entrances()]
            if not is_leading(Net(net.ends - 1, rows)):
                self.assertRaises(NotLeading, looped, piece, end, entrance)
                continue
            many += 1
            made = looped(piece, end, entrance)
            self.assertEqual(parts(made), [net.ends - 1, rows, piece.setting(), piece.entrances()])
            # What comes to the end is put in again, until nothing does.
            come, held, fed = [0] * net.ends, piece, list(inputs)
            while any(fed):
                told = held.outputs(fed)
                held = held.behind(fed)
                come = [one + two for one, two in zip(come, told)]
                fed = [told[end] if at == entrance else 0 for at in range(len(fed))]
            self.assertEqual(made.outputs(inputs), come[:end] + come[end + 1:])
            self.assertEqual(made.behind(inputs).setting(), held.setting())
        self.assertGreater(many, 50)

    def test_alike_pieces_looped(self):
        slow = Piece(Net(2, [[0, -1, 0, -2]]), [0], [0])
        self.assertIs(alike(looped(TURNS, 0, 0), looped(slow, 0, 0)), True)
        self.assertRaises(InvalidEntrance, looped, TURNS, 0, HUGE)


if __name__ == "__main__":
    unittest.main()
