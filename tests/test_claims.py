"""Claims, their contraries and their papers [9a4] to [9a6]."""

import itertools
import random
import unittest

from flippedpoints.claims import contrary, is_claim, is_paper_of, is_true, paper_of, words
from flippedpoints.cuts import good_cut
from flippedpoints.errors import InvalidClaim, TooMany
from flippedpoints.judges import is_arrive_paper, is_never_paper
from flippedpoints.least import flows_below
from flippedpoints.nets import Net, many_settings
from flippedpoints.pieces import Piece
from flippedpoints.visits import ring_of_visits
from tests.support import HUGE, INTEGERS, LISTS, PAIR, STRANGE, Call, CallTests, kinds_of, spoil
from tests.support import big_net, one_at, plain_entered, plain_lost, random_nets, wrong_indexes, wrong_nets, wrong_numbers, wrong_pieces
from tests.support import wrong_settings

FORK = Net(2, [[1, -1], [0, 1, -2]])
LOST = Net(1, [[1, -1], [1]])
TURNS = Piece(Net(2, [[-1, -2]]), [0], [0])
SLOW = Piece(Net(2, [[0, -1, 0, -2]]), [0], [0])
FIVE = Net(2, [[at, -1, -2] for at in range(5)])
GREAT = Piece(FIVE, [0] * 5, [0])
ROWS = [("arrives", "misses"), ("ends", "never"), ("least", "more"), ("alike", "parted")]
MOST = HUGE - 1
ANY = STRANGE + INTEGERS + LISTS + [PAIR, TURNS]


def wrong_claims():
    """Values that are no claims; each of them is nearly one."""
    train = [PAIR, [0, 0], 0]
    flow = [PAIR, [0, 0], [1, 0], [4, 2]]
    rows = [("arrives", train + [0]), ("misses", train + [0]), ("ends", train), ("never", train), ("least", flow), ("more", flow),
            ("alike", [TURNS, SLOW]), ("parted", [TURNS, SLOW])]
    wrong = {"net": wrong_nets(), "setting": wrong_settings(PAIR, [0, 0]), "begin": wrong_indexes(2) + [-2], "end": wrong_indexes(1),
             "starts": wrong_numbers([1, 0]), "visits": wrong_numbers([4, 2]) + [[4, 1], [3, 2], [0, 0], [4, 3], [HUGE, 0]],
             "piece": wrong_pieces() + [Piece(PAIR, [0, 0], [0]), Piece(Net(2, [[-1], [-2]]), [0, 0], [0, 1])]}
    kinds = {"arrives": "net setting begin end", "ends": "net setting begin", "least": "net setting starts visits", "alike": "piece piece"}
    found = ANY + [words(), (), ("arrives",), "arrives"]
    for (word, things), (first, _) in zip(rows, [row for row in ROWS for _ in range(2)]):
        found += [[word] + things, tuple(things), (word,) + tuple(things[:-1]), (word,) + tuple(things) + (0,), (word, things), things]
        found += [(other,) + tuple(things) for other in ("arrive", "Ends", "least ", "", None, True, 0, ("ends",), ["ends"], b"ends", "net")]
        found += [(other,) + tuple(things) for row in ROWS for other in row if first not in row and other != word]
        for at, kind in enumerate(kinds[first].split()):
            for value in wrong[kind]:
                found.append((word,) + tuple(things[:at]) + (value,) + tuple(things[at + 1:]))
    # Nets that aren't leading, and those of other ends.
    found += [("least", LOST, [1, 0], [1, 0], [1, 0]), ("more", LOST, [0, 0], [0, 0], [0, 0]), ("arrives", Net(0, [[0]]), [0], 0, 0)]
    return found


class ClaimCalls(CallTests, unittest.TestCase):

    def calls(self):
        claims = (InvalidClaim, wrong_claims())
        told = [("arrives", PAIR, [0, 0], 0, 0), ("misses", FORK, [0, 0], 0, 0), ("ends", LOST, [1, 0], 0), ("never", LOST, [0, 0], 0),
                ("least", PAIR, [0, 0], [1, 0], [4, 2]), ("more", PAIR, [0, 0], [1, 0], [5, 2]), ("alike", TURNS, SLOW),
                ("parted", TURNS, SLOW.behind([1]))]
        calls = [Call(words, {})]
        for claim in told:
            calls += [Call(is_claim, {"value": claim}), Call(contrary, {"claim": claim}), Call(is_true, {"claim": claim}),
                      Call(paper_of, {"claim": claim}), Call(is_paper_of, {"claim": claim, "value": paper_of(claim)}, asked=True)]
        for function in (contrary, is_true, paper_of):
            calls.append(Call(function, {"claim": told[0]}, {"claim": claims}))
        return calls + [Call(is_paper_of, {"claim": told[0], "value": [4, 2]}, {"claim": claims}),
                        Call(is_claim, {"value": told[4]}, asked=True)]

    def test_what_is_no_claim(self):
        for value in wrong_claims():
            with self.subTest(value=value):
                self.assertIs(is_claim(value), False)

    def test_lists_in_a_claim_may_be_tuples(self):
        for claim in (("arrives", FORK, (0, 1), 1, 1), ("least", PAIR, (0, 0), (1, 0), (4, 2)), ("more", PAIR, [0, 0], (1, 0), [5, 2])):
            lists = tuple([list(part) if isinstance(part, tuple) else part for part in claim])
            self.assertEqual([is_claim(claim), is_claim(lists), is_true(claim)], [True, True, is_true(lists)])
            self.assertEqual(kinds_of(contrary(claim)), kinds_of(contrary(lists)))
            self.assertEqual(kinds_of(contrary(contrary(claim))), kinds_of(lists))
            self.assertEqual(paper_of(claim), paper_of(lists))

    def assert_too_many(self, what, limit, function, *arguments):
        with self.assertRaises(TooMany) as caught:
            function(*arguments)
        self.assertEqual([caught.exception.what, caught.exception.limit], [what, limit])

    def test_great_cuts(self):
        train = (FIVE, [1] * 5, 3)
        for word in ("arrives", "misses"):
            claim = (word,) + train + (0,)
            self.assertIs(is_claim(claim), True)
            self.assert_too_many("cut", 4, is_true, claim)
            self.assert_too_many("cut", 4, paper_of, claim)
        for word in ("ends", "never"):
            self.assert_too_many("cut", 4, is_true, (word,) + train)
            self.assert_too_many("cut", 4, paper_of, (word,) + train)
        # Papers of trains and flows can be judged in any net.
        one = one_at(5, 3)
        self.assertEqual([is_paper_of(("arrives",) + train + (0,), one), is_paper_of(("misses",) + train + (0,), one),
                          is_paper_of(("misses",) + train + (1,), (0, one)), is_paper_of(("ends",) + train, (0, one)),
                          is_paper_of(("never",) + train, one)], [True, False, True, True, False])
        flow = ("least", FIVE, [1] * 5, one, one)
        self.assertEqual([is_true(flow), is_paper_of(flow, paper_of(flow)), is_true(contrary(flow))], [True, True, False])
        for word in ("alike", "parted"):
            for pieces in ((GREAT, GREAT), (GREAT, TURNS), (TURNS, GREAT)):
                claim = (word,) + pieces
                self.assertIs(is_claim(claim), True)
                self.assert_too_many("cut", 4, is_true, claim)
                self.assert_too_many("cut", 4, paper_of, claim)
                for value in ANY + [[], [((0,), (0,))]]:
                    self.assert_too_many("cut", 4, is_paper_of, claim, value)
        self.assertRaises(InvalidClaim, is_paper_of, ("alike", GREAT, PAIR), [])

    def test_numbers_of_pairs(self):
        plain = Piece(Net(2, [[-1]]), [0], [0])

        def counter(sizes, last=-1):
            rows = [[-1] * (size - 1) + [at + 1] for at, size in enumerate(sizes)]
            rows[-1][-1] = last
            return Piece(Net(2, rows), [0] * len(sizes), [0])
        just = ("alike", counter([5, 5, 4, 4]), plain)
        told = paper_of(just)
        self.assertEqual([len(told), is_true(just), is_paper_of(just, told), many_settings(just[1].net())], [400, True, True, 400])
        for sizes in ([3, 5, 3, 3, 3], [4, 5, 5, 5, 4, 2]):
            more = ("alike", counter(sizes), plain)
            self.assertEqual([is_true(more), is_true(contrary(more)), paper_of(contrary(more))], [True, False, None])
            self.assert_too_many("pairs", 400, paper_of, more)
        # One pair more than 400, as the first setting doesn't come again.
        rows = counter([5, 5, 4, 4]).net().exits()
        rows[0].append(0)
        self.assert_too_many("pairs", 400, paper_of, ("alike", Piece(Net(2, rows), [0] * 4, [0]), plain))
        self.assertEqual(len(paper_of(("alike", Piece(Net(2, rows), [5, 0, 0, 0], [0]), plain))), 400)
        # Parted behind more trains than that: no paper of `alike`, and one of `parted`.
        parted = ("parted", counter([4, 5, 5, 5, 4, 2], -2), plain)
        self.assertEqual([is_true(parted), paper_of(parted), paper_of(contrary(parted))], [True, [4000], None])
        for word in ("alike", "parted"):
            for function in (is_true, paper_of):
                self.assert_too_many("pairs", 4000, function, (word, counter([6, 6, 6, 6, 4]), plain))
        self.assertIs(is_paper_of(("parted", counter([6] * 6, -2), plain), [6 ** 6]), True)


class TrainClaims(unittest.TestCase):

    def test_words(self):
        self.assertEqual([words(), words().__class__, words()[0].__class__], [ROWS, list, tuple])

    def assert_claim(self, claim, right):
        """Hold a claim, its contrary and both papers against what is right."""
        other = contrary(claim)
        self.assertEqual([is_claim(other), contrary(other), is_true(claim), is_true(other)], [True, claim, right, not right])
        true, false = (claim, other) if right else (other, claim)
        paper = paper_of(true)
        self.assertIsNone(paper_of(false))
        self.assertEqual([is_paper_of(true, paper), is_paper_of(false, paper)], [True, False])
        return paper

    def test_small_nets(self):
        seen = []
        for leading in (True, False):
            for net, setting in random_nets(921, 120, points=4, exits=3, ends=3, leading=leading):
                lost = plain_lost(net.ends, net.exits())
                for begin in range(net.points):
                    where, visits = plain_entered(net.exits(), setting, begin, lost)
                    train = (net, setting, begin)
                    paper = self.assert_claim(("ends",) + train, where < 0)
                    if where < 0:
                        self.assertEqual([paper.__class__, paper[0], is_arrive_paper(*train, -1 - where, paper[1])], [tuple, -1 - where, True])
                    else:
                        self.assertIs(is_never_paper(*train, paper), True)
                    for end in range(net.ends):
                        paper = self.assert_claim(("arrives",) + train + (end,), where == -1 - end)
                        if where == -1 - end:
                            self.assertIs(is_arrive_paper(*train, end, paper), True)
                        elif where < 0:
                            self.assertEqual([paper[0], is_arrive_paper(*train, -1 - where, paper[1])], [-1 - where, True])
                        else:
                            self.assertIs(is_never_paper(*train, paper), True)
                        seen.append((where >= 0, where == -1 - end))
                        # Flows with rings put on top are papers, too; those that lack a visit are not.
                        for flow in flows_below(net, setting, one_at(net.points, begin), 3)[:4]:
                            come = where == -1 - end
                            self.assertIs(is_paper_of(("arrives",) + train + (end,), flow), come)
                            self.assertIs(is_paper_of(("ends",) + train, (end, flow)), come)
                            for other in range(net.ends):
                                right = where == -1 - other and other != end
                                self.assertIs(is_paper_of(("misses",) + train + (end,), (other, flow)), right)
                            self.assertIs(is_paper_of(("ends",) + train, flow), False)
        self.assertTrue({(True, False), (False, True), (False, False)} <= set(seen))

    def test_papers_of_ends(self):
        claim, missed = ("ends", FORK, [0, 0], 0), ("misses", FORK, [0, 0], 0, 1)
        for value in [(0, [2, 1]), (0, (2, 1))]:
            self.assertIs(is_paper_of(claim, value), True)
            self.assertIs(is_paper_of(missed, value), True)
            self.assertIs(is_paper_of(("misses", FORK, [0, 0], 0, 0), value), False)
        for value in [[0, [2, 1]], (1, [2, 1]), (-1, [2, 1]), (2, [2, 1]), (False, [2, 1]), (None, [2, 1]), ("0", [2, 1]), (0, [3, 1]),
                      (0, [2, True]), (0, [2]), (0, [2, 1, 0]), (0, [2, 1], 0), (0,), ([2, 1], 0), [2, 1], (2, 1), ((0, [2, 1]),), ([0], [2, 1])]:
            for one in (claim, missed):
                self.assertIs(is_paper_of(one, value), False)
        never = ("never", LOST, [0, 0], 0)
        for value, right in (([1], True), ((1,), True), ([0, 1], False), ([], False)):
            self.assertIs(is_paper_of(never, (value, [1, 1])), right)
            self.assertIs(is_paper_of(("misses", LOST, [0, 0], 0, 0), (value, [1, 1])), right)
        self.assertIs(is_paper_of(("misses", LOST, [0, 0], 0, 0), [[1], [1, 1]]), False)

    def test_papers_of_one_claim_handed_to_another(self):
        claims = [("arrives", FORK, [0, 0], 0, 0), ("ends", FORK, [0, 0], 0), ("misses", FORK, [0, 0], 0, 1), ("never", LOST, [0, 0], 0),
                  ("least", PAIR, [0, 0], [1, 0], [4, 2]), ("more", PAIR, [0, 0], [1, 0], [5, 2]), ("alike", TURNS, SLOW),
                  ("parted", TURNS, SLOW.behind([1]))]
        papers = [paper_of(claim) for claim in claims]
        for (one, claim), (two, paper) in itertools.product(enumerate(claims), enumerate(papers)):
            right = one == two or {claim[0], claims[two][0]} == {"ends", "misses"}
            with self.subTest(claim=claim[0], paper=claims[two][0]):
                self.assertIs(is_paper_of(claim, paper), right)
            self.assertIs(is_paper_of(contrary(claim), paper), False)

    def test_long_runs(self):
        line = Net(1, [[0, at + 1] for at in range(23)] + [[0, -1]])
        claim = ("arrives", line, [0] * 24, 0, 0)
        paper = paper_of(claim)
        self.assertEqual([is_true(claim), sum(paper), is_paper_of(claim, paper), is_true(contrary(claim))], [True, 33554430, True, False])
        row = Net(3, [[0, 0, at + 1] for at in range(19)] + [[-1, -2, -3]])
        for end in range(3):
            self.assert_claim(("arrives", row, [0] * 20, 0, end), end == 0)
        trap = Net(1, [[0, 0, at + 1] for at in range(18)] + [[0, -1, 19], [19, 19, 19]])
        for spot in range(3):
            self.assert_claim(("never", trap, [0] * 18 + [spot, 0], 0), spot == 2)
        for seed in range(12):
            net, setting = big_net(seed, tracks=36)
            if len(good_cut(net)) <= 4:
                where, _ = plain_entered(net.exits(), setting, 1, [])
                self.assert_claim(("arrives", net, setting, 1, 0), where == -1)


class FlowClaims(unittest.TestCase):

    def plain_last(self, net, setting, visits):
        return [row[(spot + many - 1) % len(row)] if many else None for row, spot, many in zip(net.exits(), setting, visits)]

    def plain_ranks(self, net, setting, visits, value):
        lasts = self.plain_last(net, setting, visits)
        return all(value[point] < value[target] for point, target in enumerate(lasts)
                   if target is not None and target >= 0 and visits[target] > 0)

    def plain_ring(self, net, setting, visits, value):
        lasts = self.plain_last(net, setting, visits)
        return len(value) > 0 and len(set(value)) == len(value) and all(
            lasts[point] == value[(at + 1) % len(value)] for at, point in enumerate(value))

    def test_small_nets(self):
        seen = []
        for net, setting in random_nets(931, 120, points=3, exits=3, ends=2, leading=True):
            for starts in ([1] + [0] * (net.points - 1), [2, 1, 3][:net.points], [0] * net.points):
                for flow in flows_below(net, setting, starts, 9)[:4]:
                    ring = ring_of_visits(net, setting, flow)
                    least, more = ("least", net, setting, starts, flow), ("more", net, setting, starts, flow)
                    self.assertEqual([is_claim(least), contrary(least), contrary(more)], [True, more, least])
                    self.assertEqual([is_true(least), is_true(more)], [ring is None, ring is not None])
                    self.assertEqual([paper_of(least) is None, paper_of(more) is None], [ring is not None, ring is None])
                    true, paper = (least, paper_of(least)) if ring is None else (more, paper_of(more))
                    self.assertEqual([is_paper_of(true, paper), is_paper_of(contrary(true), paper), paper.__class__], [True, False, list])
                    for value in itertools.product(range(net.points + 1), repeat=net.points):
                        self.assertIs(is_paper_of(least, list(value)), self.plain_ranks(net, setting, flow, value))
                    for size in range(net.points + 1):
                        for value in itertools.product(range(net.points), repeat=size):
                            right = self.plain_ring(net, setting, flow, value)
                            self.assertEqual([is_paper_of(more, list(value)), is_paper_of(more, value)], [right, right])
                    seen.append(ring is None)
        self.assertGreater(min(seen.count(True), seen.count(False)), 50)

    def test_kinds_of_ranks_and_rings(self):
        least, more = ("least", PAIR, [0, 0], [1, 0], [4, 2]), ("more", PAIR, [0, 0], [1, 0], [5, 2])
        # The last exit of the first point leads to the second one, that of the second one to the end.
        for value in ([0, 1], (0, 1), [5, 6], [0, 10 ** 39], [7, 8]):
            self.assertIs(is_paper_of(least, value), True)
        for value in ([1, 0], [0, 0], [-1, 0], [False, 1], [0, True], [0, "1"], [0], [0, 1, 2], [], {}, {0: 0, 1: 1}, "01", [[0], [1]],
                      [None, 1], None, 0, range(2), [(0, 1)]):
            self.assertIs(is_paper_of(least, value), False)
        for value in ([0], (0,)):
            self.assertIs(is_paper_of(more, value), True)
        for value in ([], [1], [0, 1], [0, 0], [False], [-1], [2], ["0"], [[0]], {0}, {0: 0}, 0, None, "0"):
            self.assertIs(is_paper_of(more, value), False)
        # A flow of nothing: all ranks will do, and there is no ring.
        nothing = ("least", PAIR, [0, 0], [0, 0], [0, 0])
        self.assertEqual([is_true(nothing), is_paper_of(nothing, [0, 0]), is_paper_of(nothing, [9, 3]), is_paper_of(nothing, [0])],
                         [True, True, True, False])
        self.assertEqual(len(paper_of(nothing)), 2)

    def test_great_flows(self):
        starts = [10 ** 20] + [0] * 19
        row = Net(3, [[0, 0, at + 1] for at in range(19)] + [[-1, -2, -3]])
        # One of three trains that leave a point goes on; all that come to the last one are gone then.
        right = [10 ** 20 * 3 ** (19 - at) for at in range(20)]
        claim = ("least", row, [0] * 20, starts, right)
        self.assertEqual([is_claim(claim), is_true(claim), is_paper_of(claim, paper_of(claim))], [True, True, True])
        self.assertEqual([is_paper_of(claim, list(range(20))), is_paper_of(claim, list(range(20))[::-1])], [True, False])
        loops = Net(1, [[0, -1]])
        for many in (10 ** 20, 10 ** 29):
            least, more = [("least", loops, [0], [many], [2 * many]), ("more", loops, [0], [many], [2 * many + 1])]
            self.assertEqual([is_true(least), is_true(more), paper_of(more), is_paper_of(more, [0])], [True, True, [0], True])


class PieceClaims(unittest.TestCase):

    def test_pairs(self):
        claim = ("alike", TURNS, SLOW)
        right = [((0,), (0,)), ((1,), (2,))]
        self.assertEqual([paper_of(claim), kinds_of(paper_of(claim))], [right, kinds_of(right)])
        for value in (right, tuple(right)):
            self.assertIs(is_paper_of(claim, value), True)
        # Of SLOW the settings 0 and 1 are followed by the same ends, and so are 2 and 3.
        more = [((0,), (0,)), ((0,), (1,)), ((1,), (2,)), ((1,), (3,))]
        self.assertIs(is_paper_of(claim, [((0,), (0,)), ((0,), (1,)), ((1,), (2,))]), True)
        self.assertIs(is_paper_of(claim, more), True)
        for value in ([], right[:1], right[1:], right[::-1], right + right[1:], right[:1] + right, [right], [list(pair) for pair in right],
                      [([0], [0]), ([1], [2])], [((0,), (0,)), ((0,), (3,)), ((1,), (2,))], [((0,), (0,)), ((1,), (4,))], right + [((2,), (0,))],
                      [((0,), (0,)), ((1,), (2,), (0,))], [((False,), (0,)), ((1,), (2,))], [((0, 0), (0,)), ((1,), (2,))], [0, 1], [(0, 0), (1, 2)],
                      {right[0]: 0, right[1]: 0}, set(right), str(right), None, [None], [right[0], None], [right[0], (right[1],)],
                      [((0,), (0,)), ((1,), "2")], [((0,), (0,)), ((1,), [2])], [(right[0]), ((1,), (-1,))]):
            with self.subTest(value=value):
                self.assertIs(is_paper_of(claim, value), False)
        for value in ([((0,), (0,)), ((0,), (4,)), ((1,), (2,))], [((0,), (0,)), ((1,), (2,)), ((2,), (0,))], [([0], (0,)), ((1,), (2,))],
                      [((0,), [0]), ((1,), (2,))]):
            self.assertIs(is_paper_of(claim, value), False)
        # From each of these trains lead to the other one, but not to the same ends.
        self.assertIs(is_paper_of(("alike", TURNS, SLOW.behind([1])), [((0,), (2,)), ((1,), (0,))]), False)
        # The pairs of others don't hold here, nor do those of the pieces in each other's place.
        self.assertIs(is_paper_of(("alike", SLOW, TURNS), right), False)
        self.assertIs(is_paper_of(("alike", SLOW, TURNS), [(two, one) for one, two in right]), True)
        self.assertIs(is_paper_of(("alike", TURNS, SLOW.behind([1])), right), False)

    def test_too_many_pairs_in_a_paper(self):
        # Settings of points that aren't come to: more pairs than are needed, up to 400 and beyond.
        wide = Piece(Net(1, [[-1], [-1] * 6, [-1] * 6, [-1] * 6, [-1, -1]]), [0] * 5, [0])
        plain = Piece(Net(1, [[-1]]), [0], [0])
        every = [((0,) + rest, (0,)) for rest in itertools.product(range(6), range(6), range(6), range(2))]
        claim = ("alike", wide, plain)
        self.assertEqual(paper_of(claim), [((0, 0, 0, 0, 0), (0,))])
        self.assertEqual([is_paper_of(claim, every[:many]) for many in (1, 2, 399, 400, 401, 432)], [True] * 4 + [False] * 2)

    def test_parting_inputs(self):
        claim = ("parted", TURNS, SLOW.behind([1]))
        self.assertEqual([paper_of(claim), is_true(claim)], [[1], True])
        for value, right in (([1], True), ((1,), True), ([2], False), ([3], True), ([MOST], True), ([MOST - 1], False), ([0], False), ([HUGE], False),
                             ([-1], False), ([True], False), (["1"], False), ([1, 0], False), ([], False), (1, False), ([[1]], False), (None, False),
                             ({0: 1}, False), ([(1,)], False)):
            self.assertIs(is_paper_of(claim, value), right)
            self.assertIs(is_paper_of(contrary(claim), value), False)

    def test_all_inputs(self):
        chance = random.Random(941)
        seen = []
        pieces = [Piece(net, setting, chance.sample(range(net.points), 2))
                  for net, setting in random_nets(942, 300, points=2, exits=3, ends=2, leading=True) if net.points == 2 and net.ends == 2][:40]
        for one, two in list(zip(pieces, pieces[1:])) + [(piece, piece.behind([1, 2])) for piece in pieces[:10]]:
            right = next((inputs for inputs in itertools.product(range(9), repeat=2) if one.outputs(inputs) != two.outputs(inputs)), None)
            alike, parted = ("alike", one, two), ("parted", one, two)
            self.assertEqual([is_true(alike), is_true(parted), contrary(alike), contrary(parted)], [right is None, right is not None, parted, alike])
            true, false = (alike, parted) if right is None else (parted, alike)
            paper = paper_of(true)
            self.assertEqual([is_paper_of(true, paper), is_paper_of(false, paper), paper_of(false)], [True, False, None])
            if right is None:
                # Without one of its pairs it is none; each of them is needed.
                for at in range(len(paper)):
                    self.assertIs(is_paper_of(alike, paper[:at] + paper[at + 1:]), False)
            else:
                self.assertIs(is_paper_of(parted, list(right)), True)
                self.assertEqual([is_paper_of(parted, list(inputs)) for inputs in itertools.product(range(4), repeat=2)],
                                 [one.outputs(inputs) != two.outputs(inputs) for inputs in itertools.product(range(4), repeat=2)])
            seen.append(right is None)
        self.assertGreater(min(seen.count(True), seen.count(False)), 3)

    def test_what_is_returned_is_new(self):
        setting, starts, visits = [0, 0], [1, 0], [4, 2]
        claim = ("least", PAIR, setting, starts, visits)
        other = contrary(claim)
        self.assertFalse(any(one is two for one in other[2:] for two in claim[2:]))
        spoil(other)
        self.assertEqual(claim, ("least", PAIR, [0, 0], [1, 0], [4, 2]))
        words().append(0)
        self.assertEqual(words(), ROWS)


if __name__ == "__main__":
    unittest.main()
