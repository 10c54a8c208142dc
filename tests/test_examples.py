"""The examples of the interface, of the points and of README.md."""

import doctest
import pathlib
import unittest

from flippedpoints.crowds import by_sequence, crowd_of, finished, visits_by
from flippedpoints.cuts import fewest_cut, sequence_without
from flippedpoints.machine import gone_tracks, run_visits
from flippedpoints.nets import Net, last_exits, target_of
from flippedpoints.visits import behind, gone, has_ring, is_flow

HERE = pathlib.Path(__file__).resolve().parent
# The two points of the overview [1].
OVER = Net(1, [[0, 1], [0, -1]])


class WrittenExamples(unittest.TestCase):

    def assert_examples(self, path, least):
        test = doctest.DocTestParser().get_doctest(path.read_text(encoding="utf-8"), {}, path.name, str(path), 0)
        told = []
        result = doctest.DocTestRunner(verbose=False).run(test, out=told.append)
        self.assertEqual(result.failed, 0, "".join(told))
        self.assertGreaterEqual(result.attempted, least)

    def test_interface(self):
        self.assert_examples(HERE / "examples.txt", 96)

    def test_readme(self):
        self.assert_examples(HERE.parent / "README.md", 61)


class PointExamples(unittest.TestCase):

    def test_overview(self):
        tracks = gone_tracks(OVER, [0, 0], 0, 100)
        self.assertEqual([target_of(OVER, track) for track in tracks], [0, 1, 0, 0, 1, -1])
        self.assertEqual(run_visits(OVER, [0, 0], 0, 100), [4, 2])
        # 4 is 1 for the beginning, 2 by the point's own first exit, 1 that came back; 2 is what came over.
        self.assertEqual(gone(OVER, [0, 0], [4, 2]), [2, 2, 1, 1])
        self.assertIs(is_flow(OVER, [0, 0], [1, 0], [4, 2]), True)
        self.assertEqual(last_exits(OVER, behind(OVER, [0, 0], [4, 2])), [1, -1])
        self.assertIs(has_ring(OVER, [0, 0], [4, 2]), False)

    def test_a_ring_through_one_point(self):
        # Of three points, where 0 leads to 1 and 2, 1 to 2 and an end, 2 to 0 and 1 [4a].
        net = Net(1, [[1, 2], [2, -1], [0, 1]])
        self.assertEqual([fewest_cut(net), sequence_without(net, [2])], [[2], [0, 1]])

    def test_one_train_at_each(self):
        crowd = crowd_of(OVER, [0, 0], [1, 1])
        for rule in ("least", "greatest", "rounds"):
            self.assertEqual(visits_by(OVER, crowd, rule, 100), [6, 4])
            self.assertEqual(finished(OVER, crowd, rule, 100), (((0, 0), (0, 0), (2,)), 10))
        self.assertEqual(by_sequence(OVER, crowd, [1, 0, 0, 0, 1, 0, 1, 0, 0, 1]), ((0, 0), (0, 0), (2,)))


if __name__ == "__main__":
    unittest.main()
