"""The errors: all that the interface lists, each under its class, with its attributes."""

import unittest

from flippedpoints import errors

VALUED = """InvalidNet InvalidSetting InvalidPoint InvalidEnd InvalidTrack InvalidStarts InvalidVisits InvalidLot
    InvalidTimes InvalidMost InvalidPiece InvalidClaim InvalidCommand InvalidCrowd InvalidEnds InvalidEntrance
    InvalidEntrances InvalidExit InvalidExits InvalidInputs InvalidPaper InvalidRing InvalidRule InvalidSequence
    InvalidSort InvalidState InvalidTarget InvalidThing"""
BARE = "NotLeading Ended FullPoint LastExit NotCut NotFlow NotRound NotTree NothingToRedo NothingToUndo UnlikeShapes"
# (class in front, its own base, {name: attributes}).
FAMILIES = [
    ("TrackError", ValueError, {**{name: ["value"] for name in VALUED.split()}, "BadSequence": ["position"],
                                "BadText": ["line"], "InvalidDeeds": ["position"], "UnreadText": ["position"]}),
    ("MissingError", LookupError, {"UnknownLabel": ["value"], "UnknownName": ["value"]}),
    ("StateError", RuntimeError, {**{name: [] for name in BARE.split()}, "CommandFailed": ["position"],
                                  "LabelTaken": ["label"], "NameTaken": ["name"], "NoTrain": ["point"]}),
    ("LimitError", ArithmeticError, {"TooMany": ["what", "limit"]}),
]
ANY = [None, True, 0, "word", b"", [1, [2]], (3,), {4: 5}, object(), ValueError]


class ErrorTests(unittest.TestCase):

    def test_there_are_just_these_classes(self):
        listed = [name for front, _, kids in FAMILIES for name in [front, *kids]]
        there = [name for name, value in vars(errors).items() if isinstance(value, type)]
        self.assertEqual(sorted(there), sorted(listed))
        self.assertEqual(len(listed), 4 + 32 + 2 + 15 + 1)

    def test_each_stands_directly_under_the_class_in_front(self):
        for front, base, kids in FAMILIES:
            head = getattr(errors, front)
            self.assertEqual(head.__bases__, (base,))
            for name in kids:
                with self.subTest(name):
                    self.assertEqual(getattr(errors, name).__bases__, (head,))
                    self.assertEqual(getattr(errors, name).__module__, "flippedpoints.errors")

    def test_any_values_are_kept_by_position_and_by_name(self):
        for _, _, kids in FAMILIES:
            for name, attributes in kids.items():
                for shift in range(len(ANY)):
                    values = (ANY + ANY)[shift:shift + len(attributes)]
                    named = dict(zip(attributes, values))
                    made = getattr(errors, name)
                    for error in (made(*values), made(**named)):
                        with self.subTest(name, values=values):
                            self.assertEqual(vars(error), named)
                            self.assertTrue(all(vars(error)[key] is named[key] for key in named))

    def test_they_take_no_more_and_no_fewer_than_their_attributes(self):
        for _, _, kids in FAMILIES:
            for name, attributes in kids.items():
                if attributes:
                    with self.subTest(name):
                        with self.assertRaises(TypeError):
                            getattr(errors, name)()
                        with self.assertRaises(TypeError):
                            getattr(errors, name)(*[0] * (len(attributes) + 1))


if __name__ == "__main__":
    unittest.main()
