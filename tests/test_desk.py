"""A desk: yards, labels, deeds, other commands, papers, trials [9b]."""

import inspect
import random
import unittest

from flippedpoints import errors
from flippedpoints.claims import contrary, is_claim, is_paper_of, is_true, paper_of
from flippedpoints.desk import Desk, Trial, tried
from flippedpoints.errors import CommandFailed, FullPoint, InvalidClaim, InvalidCommand, InvalidDeeds, InvalidEnd, InvalidEntrances, InvalidExit
from flippedpoints.errors import InvalidPaper, InvalidPoint, InvalidSetting, InvalidStarts, InvalidTarget, InvalidTrack, LabelTaken, LastExit
from flippedpoints.errors import NameTaken, NothingToRedo, NothingToUndo, NotLeading, TooMany, UnknownLabel, UnknownName
from flippedpoints.nets import Net
from flippedpoints.pieces import Piece
from tests.support import INTEGERS, LISTS, PAIR, STRANGE, kinds_of
from tests.support import plain_entered, plain_lost, plain_run

HOME = "net p ends 1; point 0 1; point 0 -1"
ROOMY = 10 ** 20 - 1
ANY = STRANGE + INTEGERS + LISTS + [PAIR, Desk, Desk()]
FIVE = "net five ends 2; " + "; ".join(f"point {at} -1 -2" for at in range(5))
LOST = "net lost ends 1; point 1 -1; point 1"


def desk_of(*lines):
    desk = Desk()
    desk.do_all(*lines)
    return desk


def seen(desk):
    """All that can be seen of a desk."""
    labels = desk.labels
    return [len(desk), desk.names, [kinds_of(desk[name]) for name in desk.names], [desk[name][1:] for name in desk.names], labels,
            [desk.do("state " + label) for label in labels], [desk.do("claimed " + label) for label in labels],
            [kinds_of(desk.claim_of(label)) for label in labels], [desk.fits(label) for label in labels], desk.lines(), undone(desk)]


def undone(desk):
    """The lines that can be done again, the first one first."""
    twin, found = desk.copy(), []
    while True:
        try:
            found.append(twin.do("redo"))
        except NothingToRedo:
            return found


class DeskTestCase(unittest.TestCase):

    def assert_fails(self, desk, command, error, *attributes):
        """The command fails by this error, and nothing is changed."""
        held = seen(desk)
        with self.subTest(command=command), self.assertRaises(error) as caught:
            desk.do(command)
        self.assertIs(caught.exception.__class__, error)
        told = list(vars(caught.exception).values())
        self.assertEqual([told, kinds_of(told)], [list(attributes), kinds_of(list(attributes))])
        self.assertEqual(seen(desk), held)

    def assert_yard(self, desk, name, exits, setting, come):
        yard = desk[name]
        self.assertEqual([yard[0].exits(), yard[1], yard[2]], [exits, setting, come])
        self.assertEqual([part.__class__ for part in [yard] + list(yard)], [tuple, Net, tuple, tuple])
        self.assertEqual([kinds_of(list(part)) for part in yard[1:]], [kinds_of(list(part)) for part in (setting, come)])


class DeskItself(DeskTestCase):

    def test_a_new_desk(self):
        desk = Desk()
        self.assertEqual([len(desk), desk.names, desk.labels, desk.lines(), desk("names"), desk("states"), undone(desk)], [0, [], [], [], "-", "-", []])
        self.assertEqual([desk.names.__class__, desk.labels.__class__, desk.lines().__class__, list(inspect.signature(Desk).parameters)],
                         [list, list, list, []])

    def test_names_of_parameters(self):
        for function, names in ((Desk.claim_of, ["label"]), (Desk.do, ["command"]), (Desk.__call__, ["command"]), (Desk.do_all, ["commands"]),
                                (Desk.attempt, ["commands"]), (Desk.attach, ["label", "paper"]), (Desk.fits, ["label"]), (Desk.lines, []),
                                (Desk.copy, []), (Trial.__init__, ["desk"])):
            self.assertEqual(list(inspect.signature(function).parameters)[1:], names)
        self.assertEqual([list(inspect.signature(Desk.again).parameters), list(inspect.signature(tried).parameters)], [["lines"], ["desk", "action"]])
        desk = Desk.again(lines=[HOME, "claim k arrives p 0 0"])
        self.assertEqual([desk.do(command="names"), desk(command="states"), desk.claim_of(label="k")[0]],
                         ["p", "k true", "arrives"])
        self.assertIsNone(desk.attach(label="k", paper=[4, 2]))
        self.assertEqual([desk.fits(label="k"), tried(desk=desk, action=len)], [True, 2])
        with Trial(desk=desk) as held:
            self.assertIs(held, desk)

    def test_asking_for_names(self):
        desk = desk_of(HOME, "net b ends 0; point 0", "net a0 ends 0; point 0", "claim z ends p 0", "claim y never b 0")
        self.assertEqual([desk.names, desk.labels, desk("names")], [["a0", "b", "p"], ["y", "z"], "a0 b p"])
        for names in (desk.names, desk.labels, desk.lines()):
            names.append("x")
        self.assertEqual([desk.names, desk.labels, len(desk.lines())], [["a0", "b", "p"], ["y", "z"], 5])
        for name in ("p", "b", "a0"):
            self.assertIs(name in desk, True)
        for value in ANY + ["q", "P", "a", "k", "y", "z", ["p"], ("p",), b"p", {"p"}, {"p": 0}, "p "]:
            self.assertIs(value in desk, False)
            self.assertIs(value not in desk, True)
            with self.assertRaises(UnknownName) as caught:
                desk[value]
            self.assertIs(caught.exception.value, value)
        for value in ANY + ["p", "b", "Y", ["y"], ("y",), b"y", "yy"]:
            for function, rest in ((desk.claim_of, ()), (desk.fits, ()), (desk.attach, ([4, 2],))):
                with self.assertRaises(UnknownLabel) as caught:
                    function(value, *rest)
                self.assertIs(caught.exception.value, value)

    def test_a_desk_is_not_iterated_over(self):
        desk = desk_of(HOME)
        for function in (iter, list, tuple, sorted):
            self.assertRaises(TypeError, function, desk)

    def test_what_is_no_command(self):
        desk = desk_of(HOME)
        held = seen(desk)
        for value in ANY + ["", "undo ", "names p", "net p", "send p", "send p 01", "lay p 0 -0", ["undo"], ("undo",), b"undo", "claim k ends p"]:
            for function in (desk.do, desk):
                with self.assertRaises(InvalidCommand) as caught:
                    function(value)
                self.assertIs(caught.exception.value, value)
            for function in (desk.do_all, desk.attempt):
                with self.assertRaises(CommandFailed) as caught:
                    function("drop p", value)
                self.assertEqual([caught.exception.position, caught.exception.__cause__.__class__], [1, InvalidCommand])
        self.assertEqual(seen(desk), held)


class YardDeeds(DeskTestCase):

    def test_net(self):
        desk = Desk()
        self.assertEqual(desk.do(HOME), "-")
        self.assert_yard(desk, "p", [[0, 1], [0, -1]], (0, 0), (0,))
        desk.do_all("net q0 ends 0; point 0 0 0 0 0 0", "net six ends 6; point -6 -1; point 0")
        self.assert_yard(desk, "q0", [[0] * 6], (0,), ())
        self.assert_yard(desk, "six", [[-6, -1], [0]], (0, 0), (0,) * 6)
        self.assertEqual([desk("show q0"), desk("come q0"), desk("setting q0"), desk("come six"), desk("lost q0"), desk("lost p")],
                         ["ends 0; point 0 0 0 0 0 0", "-", "0", "0,0,0,0,0,0", "0", "-"])
        self.assert_fails(desk, "net p ends 0; point 0", NameTaken, "p")

    def test_set(self):
        desk = desk_of(HOME)
        self.assertEqual(desk("set p 1,1"), "-")
        self.assert_yard(desk, "p", [[0, 1], [0, -1]], (1, 1), (0,))
        self.assertEqual(desk("setting p"), "1,1")
        for text, value in (("0", [0]), ("0,2", [0, 2]), ("2,0", [2, 0]), ("0,0,0", [0, 0, 0]), (f"0,{ROOMY}", [0, ROOMY])):
            self.assert_fails(desk, "set p " + text, InvalidSetting, value)
        self.assert_fails(desk, "set q 0,0", UnknownName, "q")

    def test_send(self):
        desk = desk_of("net p ends 2; point 1 -1; point 0 -2", "net acyclic ends 1; point -1 -1", FIVE, LOST)
        self.assertEqual(desk("send p 7,2"), "-")
        # The points are left 11 and 8 times.
        self.assert_yard(desk, "p", [[1, -1], [0, -2]], (1, 0), (5, 4))
        desk.do_all("send p 1,0", "send p 1,0", "send p 0,0")
        # One goes to the first end at once, one by both points and the first one again.
        self.assert_yard(desk, "p", [[1, -1], [0, -2]], (0, 1), (7, 4))
        desk.do_all(*[f"send acyclic {ROOMY}"] * 3)
        self.assertEqual([desk("come acyclic"), desk("setting acyclic"), desk("come p")], [str(3 * ROOMY), "1", "7,4"])
        self.assert_fails(desk, "send p 1", InvalidStarts, [1])
        self.assert_fails(desk, "send p 1,0,0", InvalidStarts, [1, 0, 0])
        self.assert_fails(desk, "send lost 1", InvalidStarts, [1])
        self.assert_fails(desk, "send lost 0,0", NotLeading)
        self.assert_fails(desk, "send five 0,0,0,0,0", TooMany, "cut", 4)
        self.assert_fails(desk, "send q 1", UnknownName, "q")

    def test_lay(self):
        desk = desk_of("net p ends 2; point 1 -1; point 0", "set p 1,0", "send p 1,0")
        self.assertEqual([desk("lay p 1 -2"), desk("lay p 1 1"), desk("show p"), desk("setting p")], ["-", "-", "ends 2; point 1 -1; point 0 -2 1", "0,0"])
        self.assertEqual(desk("come p"), "1,0")
        for text, error, value in (("2 0", InvalidPoint, 2), ("2 9", InvalidPoint, 2), (f"{ROOMY} 0", InvalidPoint, ROOMY), ("0 2", InvalidTarget, 2),
                                   ("0 -3", InvalidTarget, -3), (f"0 -{ROOMY}", InvalidTarget, -ROOMY), (f"1 {ROOMY}", InvalidTarget, ROOMY)):
            self.assert_fails(desk, "lay p " + text, error, value)
        desk.do_all("lay p 0 0", "lay p 0 0", "lay p 0 0", "lay p 0 -2")
        self.assertEqual(desk("show p"), "ends 2; point 1 -1 0 0 0 -2; point 0 -2 1")
        self.assert_fails(desk, "lay p 0 0", FullPoint)
        self.assert_fails(desk, "lay p 0 2", InvalidTarget, 2)
        self.assert_fails(desk, "lay q 9 9", UnknownName, "q")

    def test_lay_the_last_track(self):
        desk = desk_of("net p ends 1; " + "; ".join(["point -1 -1 -1 -1 -1 -1"] * 9 + ["point -1 -1 -1 -1 -1"]))
        self.assertEqual(desk("lay p 9 -1"), "-")
        self.assertEqual(desk["p"][0].many, 60)
        desk.do_all("net q ends 1; " + "; ".join(["point -1 -1 -1 -1 -1"] * 12))
        self.assert_fails(desk, "lay q 3 0", TooMany, "tracks", 60)
        self.assert_fails(desk, "lay p 3 0", FullPoint)

    def test_take(self):
        # Which exit is next behind it: the same one; the one behind it if it was taken itself, round.
        row = [-1, -2, 0, -3]
        for spot in range(4):
            for taken in range(4):
                desk = desk_of("net p ends 3; point -1 -2 0 -3; point 0 0", f"set p {spot},1")
                self.assertEqual(desk(f"take p 0 {taken}"), "-")
                left = row[:taken] + row[taken + 1:]
                goal = row[spot] if taken != spot else row[(spot + 1) % 4]
                self.assert_yard(desk, "p", [left, [0, 0]], (left.index(goal), 1), (0, 0, 0))
        desk = desk_of("net p ends 1; point -1; point 0 0", "take p 1 1")
        self.assert_fails(desk, "take p 0 0", LastExit)
        self.assert_fails(desk, "take p 1 0", LastExit)
        self.assert_fails(desk, "take p 1 1", InvalidExit, 1)
        self.assert_fails(desk, f"take p 1 {ROOMY}", InvalidExit, ROOMY)
        self.assert_fails(desk, "take p 2 9", InvalidPoint, 2)
        self.assert_fails(desk, "take q 2 9", UnknownName, "q")

    def test_take_of_alike_exits(self):
        desk = desk_of("net p ends 1; point 0 0 0 -1", "set p 2", "take p 0 0", "take p 0 1")
        self.assert_yard(desk, "p", [[0, -1]], (1,), (0,))
        desk.do_all("take p 0 1")
        self.assert_yard(desk, "p", [[0]], (0,), (0,))

    def test_swap(self):
        desk = desk_of("net p ends 2; point 1 -1 0; point 0 -2", "set p 2,1", "send p 0,1")
        come = desk("come p")
        desk.do_all("set p 2,1", "swap p 0 0 2", "swap p 1 1 1")
        self.assert_yard(desk, "p", [[0, -1, 1], [0, -2]], (2, 1), (0, 1))
        self.assertEqual([come, desk("swap p 1 0 1"), desk("show p")], ["0,1", "-", "ends 2; point 0 -1 1; point -2 0"])
        self.assert_fails(desk, "swap p 2 0 0", InvalidPoint, 2)
        self.assert_fails(desk, "swap p 1 2 3", InvalidExit, 2)
        self.assert_fails(desk, "swap p 1 0 2", InvalidExit, 2)
        self.assert_fails(desk, "swap q 1 0 2", UnknownName, "q")

    def test_copy_and_drop(self):
        desk = desk_of(HOME, "set p 1,0", "send p 1,0", "copy q p")
        self.assertEqual([kinds_of(desk["q"]), desk["q"] == desk["p"], desk("same p q"), desk("same q q")], [kinds_of(desk["p"]), True, "yes", "yes"])
        self.assertEqual([desk("set q 1,1"), desk("same p q"), desk("setting p")], ["-", "no", desk("setting p")])
        self.assert_fails(desk, "copy p q", NameTaken, "p")
        self.assert_fails(desk, "copy p nobody", NameTaken, "p")
        self.assert_fails(desk, "copy r nobody", UnknownName, "nobody")
        self.assert_fails(desk, "copy r r", UnknownName, "r")
        self.assertEqual([desk("drop p"), desk.names], ["-", ["q"]])
        self.assert_fails(desk, "drop p", UnknownName, "p")
        self.assertEqual([desk("copy p q"), desk("drop q"), desk("names")], ["-", "-", "p"])

    def test_same(self):
        desk = desk_of(HOME, "net q ends 1; point 0 1; point 0 -1")
        self.assertEqual(desk("same p q"), "yes")
        for line, back in (("set q 0,1", "set q 0,0"), ("lay q 0 -1", "take q 0 2"), ("send q 0,0", None), ("send q 1,0", None)):
            desk.do(line)
            self.assertEqual(desk("same p q"), "yes" if line == "send q 0,0" else "no")
            if back:
                desk.do(back)
                self.assertEqual(desk("same q p"), "yes")
        # As many have come, but one of them is gone: what has come is another thing than the setting.
        self.assertEqual([desk("setting q"), desk("same p q")], ["0,0", "no"])
        self.assert_fails(desk, "same x y", UnknownName, "x")
        self.assert_fails(desk, "same p y", UnknownName, "y")


class Answers(DeskTestCase):

    def test_of_yards(self):
        desk = desk_of("net p ends 2; point 1 -1; point 0 -2", HOME.replace("net p", "net h"), LOST, FIVE, "set h 1,0")
        for command, answer in (("show p", "ends 2; point 1 -1; point 0 -2"), ("setting h", "1,0"), ("come h", "0"), ("lost lost", "1"), ("lost h", "-"),
                                ("flow p 7,2", "11,8"), ("flow p 0,0", "0,0"), ("long h 0", "0 5"), ("long p 1", "1 3"), ("time h 0 1 2", "4"),
                                ("time h 0 1 3", "-"), ("time h 0 0 0", "0"), (f"time h 0 0 {ROOMY}", "-"), ("share p 0 0", "2/3"), ("share p 1 0", "1/3"),
                                ("share h 1 0", "1/1"), ("trees p", "3"), ("trees lost", "0"), ("trees h", "1"), ("period p 0", "3"), ("period h 1", "1"),
                                (f"flow h {ROOMY},0", f"{4 * ROOMY - 1},{2 * ROOMY}")):
            self.assertEqual([desk(command), len(desk)], [answer, 5], command)
        for word, parts in (("show", ""), ("setting", ""), ("come", ""), ("lost", ""), ("trees", ""), ("flow", " 0"), ("long", " 0"), ("time", " 0 0 0"),
                            ("share", " 9 9"), ("period", " 9")):
            self.assert_fails(desk, f"{word} q{parts}", UnknownName, "q")

    def test_errors_of_functions(self):
        desk = desk_of("net p ends 2; point 1 -1; point 0 -2", LOST, FIVE)
        for command, error, *attributes in (
                ("flow p 1", InvalidStarts, [1]), ("flow lost 0", InvalidStarts, [0]), ("flow lost 0,0", NotLeading), ("flow five 0,0,0,0,0", TooMany, "cut", 4),
                ("long p 2", InvalidPoint, 2), ("long lost 0", NotLeading), ("long five 0", TooMany, "cut", 4), ("time p 2 9 0", InvalidPoint, 2),
                ("time p 0 4 0", InvalidTrack, 4), ("time lost 0 3 0", InvalidTrack, 3), ("time lost 0 0 0", NotLeading), ("time five 0 0 0", TooMany, "cut", 4),
                ("share p 2 2", InvalidPoint, 2), ("share p 1 2", InvalidEnd, 2), ("share lost 2 1", InvalidPoint, 2), ("share lost 1 1", InvalidEnd, 1),
                ("share lost 1 0", NotLeading), ("period p 2", InvalidPoint, 2), ("period lost 2", InvalidPoint, 2), ("period lost 0", NotLeading)):
            self.assert_fails(desk, command, error, *attributes)
        # Nothing of these needs a small cut.
        self.assertEqual([desk("share five 2 1"), desk("trees five"), desk("period five 0")], ["1/2", "32", "2"])

    def test_of_labels(self):
        desk = desk_of(HOME, "claim k arrives p 0 0", "claim a0 least p 1,0 4,2", "claim z never p 1")
        for command, answer in (("states", "a0 true, k true, z false"), ("state k", "true"), ("state z", "false"), ("claimed k", "arrives p 0 0"),
                                ("claimed a0", "least p 1,0 4,2"), ("claimed z", "never p 1")):
            self.assertEqual([desk(command), len(desk)], [answer, 4])
        desk.do("drop p")
        self.assertEqual([desk("states"), desk("state k"), desk("claimed k"), desk("names")], ["a0 gone, k gone, z gone", "gone", "arrives p 0 0", "-"])
        for command in ("state q", "claimed q", "forget q", "state p"):
            self.assert_fails(desk, command, UnknownLabel, command.split(" ")[1])


class ClaimDeeds(DeskTestCase):

    def test_each_word(self):
        lines = {"arrives p 0 0": "true", "misses p 0 0": "false", "ends p 1": "true", "never p 1": "false", "least p 1,0 4,2": "true", "more p 1,0 4,2": "false",
                 "least p 1,0 5,2": "false", "more p 1,0 5,2": "true", "alike t 0 s 0": "true", "parted t 0 s 0": "false", "alike s 0 p 1": None}
        desk = desk_of(HOME, "net t ends 2; point -1 -2", "net s ends 2; point 0 -1 0 -2")
        rows = [("arrives", PAIR, [0, 0], 0, 0), ("misses", PAIR, [0, 0], 0, 0), ("ends", PAIR, [0, 0], 1), ("never", PAIR, [0, 0], 1),
                ("least", PAIR, [0, 0], [1, 0], [4, 2]), ("more", PAIR, [0, 0], [1, 0], [4, 2]), ("least", PAIR, [0, 0], [1, 0], [5, 2]),
                ("more", PAIR, [0, 0], [1, 0], [5, 2])]
        turns, slow = Piece(Net(2, [[-1, -2]]), [0], [0]), Piece(Net(2, [[0, -1, 0, -2]]), [0], [0])
        rows += [("alike", turns, slow), ("parted", turns, slow)]
        for (words, state), claim in zip(lines.items(), rows):
            self.assertEqual(desk("claim k " + words), "k " + state)
            self.assertEqual([desk("claimed k"), desk("state k"), desk("states")], [words, state, "k " + state])
            self.assertEqual([desk.claim_of("k"), kinds_of(desk.claim_of("k"))], [claim, kinds_of(claim)])
            self.assertEqual([is_true(claim), desk("forget k"), desk.labels], [state == "true", "-", []])
        self.assert_fails(desk, "claim k alike s 0 p 1", InvalidClaim, ("alike", slow, Piece(PAIR, [0, 0], [1])))

    def test_claims_that_are_none(self):
        desk = desk_of(HOME, LOST, "net n ends 0; point 0", "set p 1,0")
        lost, none = Net(1, [[1, -1], [1]]), Net(0, [[0]])
        for words, claim in (("arrives p 2 0", ("arrives", PAIR, [1, 0], 2, 0)), ("misses p 0 1", ("misses", PAIR, [1, 0], 0, 1)),
                             (f"ends p {ROOMY}", ("ends", PAIR, [1, 0], ROOMY)), ("never n 1", ("never", none, [0], 1)), ("arrives n 0 0", ("arrives", none, [0], 0, 0)),
                             ("least p 1,0 4,1", ("least", PAIR, [1, 0], [1, 0], [4, 1])), ("more p 1 4,2", ("more", PAIR, [1, 0], [1], [4, 2])),
                             ("least p 1,0 4", ("least", PAIR, [1, 0], [1, 0], [4])), ("least lost 0,0 0,0", ("least", lost, [0, 0], [0, 0], [0, 0])),
                             ("alike p 0 p 1,0", ("alike", Piece(PAIR, [1, 0], [0]), Piece(PAIR, [1, 0], [1, 0])))):
            self.assert_fails(desk, "claim k " + words, InvalidClaim, claim)

    def test_errors_of_pieces(self):
        desk = desk_of(HOME, LOST, "net t ends 1; point -1", FIVE)
        for words, error, *attributes in (
                ("alike p 2 t 0", InvalidEntrances, [2]), ("parted p 0,0 t 5", InvalidEntrances, [0, 0]), ("alike p 0 t 1", InvalidEntrances, [1]),
                ("alike lost 0 t 1", NotLeading), ("alike lost 2 t 1", InvalidEntrances, [2]), ("alike t 0 lost 2", InvalidEntrances, [2]), ("parted t 0 lost 0", NotLeading),
                ("alike p 0,1,0,1,0 t 0", InvalidEntrances, [0, 1, 0, 1, 0]), ("alike x 9 y 9", UnknownName, "x"), ("alike p 9 y 9", UnknownName, "y"),
                ("alike five 0 five 0", TooMany, "cut", 4), ("parted five 0 five 0", TooMany, "cut", 4), ("ends five 0", TooMany, "cut", 4),
                ("misses five 0 1", TooMany, "cut", 4), ("arrives y 0 0", UnknownName, "y"), ("more y 0 0", UnknownName, "y")):
            self.assert_fails(desk, "claim k " + words, error, *attributes)
        many = "net c ends 1; point -1 -1 -1 -1 -1 1; point -1 -1 -1 -1 -1 2; point -1 -1 -1 -1 -1 3; point -1 -1 -1 -1 -1 4; point -1 -1 -1 -1"
        desk.do(many)
        self.assert_fails(desk, "claim k alike c 0 t 0", TooMany, "pairs", 4000)
        self.assertEqual(desk("claim k alike c 4 t 0"), "k true")

    def test_what_comes_first(self):
        desk = desk_of(HOME, "claim k ends p 0")
        self.assert_fails(desk, "claim k ends q 9", LabelTaken, "k")
        self.assert_fails(desk, "claim k alike q 0 r 0", LabelTaken, "k")
        self.assert_fails(desk, "claim l ends q 9", UnknownName, "q")

    def test_states_that_change(self):
        desk = desk_of("net p ends 2; point -1 -2; point 0 0")
        for line, answer in (("claim b arrives p 0 1", "b false"), ("claim a arrives p 0 0", "a true"), ("claim c arrives p 1 0", "c true"), ("set p 0,1", "-"),
                             ("set p 1,0", "a false, b true, c false"), ("send p 1,0", "a true, b false, c true"), ("send p 2,0", "-"), ("swap p 0 0 1", "a false, b true, c false"),
                             ("take p 0 0", "a true, b false, c true"), ("lay p 0 0", "-"), ("copy q p", "-"), ("drop p", "a gone, b gone, c gone"), ("drop q", "-"),
                             ("net p ends 1; point -1", "a true"), ("forget a", "-"), ("claim a never p 0", "a false"), ("lay p 0 0", "-"), ("take p 0 0", "a true"),
                             ("drop p", "a gone"), ("net q ends 2; point -1 -2; point 0 0", "-"), ("copy p q", "a false, b false, c true")):
            self.assertEqual(desk(line), answer, line)
        self.assertEqual(desk("states"), "a false, b false, c true")

    def test_gone_and_again(self):
        desk = desk_of(HOME, "net t ends 1; point -1", "net u ends 1; point -1 0", "claim k least p 1,0 4,2", "claim l alike t 0 u 0", "claim m ends t 0")
        self.assertEqual([desk("states"), desk.claim_of("k") == ("least", PAIR, [0, 0], [1, 0], [4, 2])], ["k true, l true, m true", True])
        for line, answer, labels in (
                # Its tuple is no claim: no flow, other ends, no point.
                ("lay p 0 0", "k gone", ["k"]), ("take p 0 2", "k true", []), ("swap p 0 0 1", "k false", []), ("swap p 0 0 1", "k true", []),
                ("drop p", "k gone", ["k"]), ("net p ends 1; point -1", "-", ["k"]), ("drop p", "-", ["k"]), (HOME, "k true", []),
                ("drop u", "l gone", ["l"]), ("net u ends 2; point -1", "-", ["l"]), ("drop u", "-", ["l"]), ("net u ends 1; point -1", "l true", []),
                # No Piece can be made: a net that isn't leading.
                ("drop u", "l gone", ["l"]), ("net u ends 1; point 0", "-", ["l"]), ("lay u 0 -1", "l true", []), ("take u 0 1", "l gone", ["l"]), ("drop u", "-", ["l"]),
                # More than is told: each cut has five points.
                (FIVE.replace("net five ends 2", "net u ends 1").replace(" -2", ""), "-", ["l"]), ("take u 0 0", "l true", []), ("lay u 0 0", "l gone", ["l"]),
                ("drop t", "m gone", ["l", "m"]), (FIVE.replace("net five", "net t"), "-", ["l", "m"]), ("take t 2 0", "m true", ["l"])):
            self.assertEqual(desk(line), answer, line)
            self.assertEqual([label for label in desk.labels if desk("state " + label) == "gone"], labels)
            for label in desk.labels:
                self.assertEqual(desk.claim_of(label) is None, label in labels)
        self.assertIs(desk.fits("l"), False)

    def test_claims_of_new_lists(self):
        desk = desk_of(HOME, "claim k least p 1,0 4,2", "claim l ends p 0")
        for label in ("k", "l"):
            claim = desk.claim_of(label)
            for part in claim:
                if isinstance(part, list):
                    part.append(7)
            self.assertIs(is_claim(desk.claim_of(label)), True)
        self.assertEqual([desk("claimed k"), desk("state k"), desk["p"][1]], ["least p 1,0 4,2", "true", (0, 0)])

    def test_states_against_plain_runs(self):
        chance = random.Random(961)
        for _ in range(25):
            desk = desk_of("net p ends 2; point 1 -1 0; point 2 0; point 0 -2 1 2")
            for at, words in enumerate(("arrives p 0 0", "misses p 1 0", "ends p 2", "never p 0", "arrives p 2 1")):
                desk.do(f"claim k{at} {words}")
            for _ in range(12):
                point = chance.randrange(3)
                line = chance.choice([f"lay p {point} {chance.randint(-2, 2)}", f"take p {point} {chance.randrange(4)}", f"swap p {point} 0 1", "send p 1,2,0",
                                      "set p 0,0,0", "undo" if len(desk) > 6 else "redo"])
                try:
                    desk.do(line)
                except (errors.TrackError, errors.StateError):
                    continue
                net, setting, _ = desk["p"]
                lost = plain_lost(2, net.exits())
                where = [plain_entered(net.exits(), setting, begin, lost)[0] for begin in range(3)]
                right = [where[0] == -1, where[1] != -1, where[2] < 0, where[0] >= 0, where[2] == -2]
                self.assertEqual([desk(f"state k{at}") for at in range(5)], ["true" if one else "false" for one in right])
                for label in desk.labels:
                    self.assertEqual(is_true(desk.claim_of(label)), desk("state " + label) == "true")


class Limits(DeskTestCase):

    def test_eight_names(self):
        desk = desk_of(*[f"net n{at} ends 1; point -1" for at in range(8)])
        self.assert_fails(desk, "net more ends 1; point -1", TooMany, "names", 8)
        self.assert_fails(desk, "copy more n0", TooMany, "names", 8)
        self.assert_fails(desk, "copy more x", UnknownName, "x")
        self.assert_fails(desk, "copy n1 n0", NameTaken, "n1")
        desk.do_all("send n0 1", "drop n3", "copy more n0")
        self.assertEqual([len(desk.names), desk("come more")], [8, "1"])
        self.assert_fails(desk, "net n3 ends 0; point 0", TooMany, "names", 8)

    def test_eight_labels(self):
        desk = desk_of("net p ends 1; point -1", *[f"claim k{at} ends p 0" for at in range(8)])
        self.assertEqual(desk("states"), ", ".join(f"k{at} true" for at in range(8)))
        self.assert_fails(desk, "claim more ends p 0", TooMany, "labels", 8)
        self.assert_fails(desk, "claim k0 ends p 0", LabelTaken, "k0")
        self.assert_fails(desk, "claim more ends q 0", UnknownName, "q")
        self.assert_fails(desk, "claim more ends p 1", InvalidClaim, ("ends", Net(1, [[-1]]), [0], 1))
        desk.do(FIVE)
        self.assert_fails(desk, "claim more ends five 0", TooMany, "cut", 4)
        desk.do_all("forget k5", "claim more ends p 0")
        self.assertEqual(desk.labels, ["k0", "k1", "k2", "k3", "k4", "k6", "k7", "more"])

    def test_two_hundred_deeds(self):
        desk = desk_of("net p ends 1; point -1", *["send p 1"] * 198)
        self.assertEqual([len(desk), desk("claim k ends p 0"), len(desk)], [199, "k true", 200])
        for line in ("send p 1", "forget k", "drop p", "net q ends 0; point 0", "claim l never p 0", "set p 0"):
            self.assert_fails(desk, line, TooMany, "deeds", 200)
        self.assert_fails(desk, "send p 1,1", InvalidStarts, [1, 1])
        self.assert_fails(desk, "claim k never p 0", LabelTaken, "k")
        # Other commands go on, and so do deeds behind one that is taken back.
        self.assertEqual([desk("come p"), desk("state k"), desk("undo"), len(desk), desk("redo"), len(desk)], ["198", "true", "claim k ends p 0", 199, "claim k ends p 0", 200])
        self.assert_fails(desk, "redo", NothingToRedo)
        self.assertEqual([desk("undo"), desk("send p 1"), len(desk), desk("come p")], ["claim k ends p 0", "-", 200, "199"])
        again = Desk.again(desk.lines())
        self.assertEqual([len(again), again("come p")], [200, "199"])
        with self.assertRaises(CommandFailed) as caught:
            Desk.again(desk.lines() + ["send p 1"])
        self.assertEqual([caught.exception.position, caught.exception.__cause__.what], [200, "deeds"])

    def test_of_several_limits_the_first_one(self):
        lines = [f"net n{at} ends 1; point -1" for at in range(8)] + [f"claim k{at} ends n{at} 0" for at in range(8)]
        desk = desk_of(*lines, *["send n0 1"] * 184)
        self.assert_fails(desk, "copy x n0", TooMany, "names", 8)
        self.assert_fails(desk, "claim x ends n0 0", TooMany, "labels", 8)
        self.assert_fails(desk, "drop n0", TooMany, "deeds", 200)


class TakingBack(DeskTestCase):

    def test_undo_and_redo(self):
        lines = [HOME, "claim k arrives p 0 0", "set p 0,1", "lay p 1 0", "copy q p", "drop p", "forget k", "claim k ends q 0", "send q 1,1"]
        desk, twins = Desk(), [seen(Desk())]
        for line in lines:
            desk.do(line)
            twins.append(seen(desk))
        self.assertEqual(desk.lines(), lines)
        self.assert_fails(desk, "redo", NothingToRedo)
        for at in reversed(range(len(lines))):
            self.assertEqual([desk("undo"), seen(desk)[:-1], undone(desk)], [lines[at], twins[at][:-1], lines[at:]])
        self.assert_fails(desk, "undo", NothingToUndo)
        for at, line in enumerate(lines):
            self.assertEqual([desk("redo"), seen(desk)[:-1], undone(desk)], [line, twins[at + 1][:-1], lines[at + 1:]])
        self.assert_fails(desk, "redo", NothingToRedo)

    def test_a_deed_between(self):
        desk = desk_of(HOME, "set p 0,1", "set p 1,1", "undo", "undo")
        # Other commands, those that fail and papers are no deeds.
        desk.do_all("names", "flow p 1,0", "states")
        self.assertRaises(UnknownName, desk.do, "drop q")
        self.assertRaises(CommandFailed, desk.do_all, "drop p", "drop p")
        self.assertEqual(desk.attempt("set p 1,0", "setting p"), ["-", "1,0"])
        self.assertEqual(undone(desk), ["set p 0,1", "set p 1,1"])
        self.assertEqual([desk("redo"), desk("setting p"), desk("set p 1,0")], ["set p 0,1", "0,1", "-"])
        self.assert_fails(desk, "redo", NothingToRedo)
        self.assertEqual([desk("undo"), desk("setting p"), desk("undo"), desk("setting p"), desk("redo"), desk("redo"), desk("setting p")],
                         ["set p 1,0", "0,1", "set p 0,1", "0,0", "set p 0,1", "set p 1,0", "1,0"])

    def test_states_come_back(self):
        desk = desk_of("net p ends 2; point -1 -2", "claim k arrives p 0 0", "set p 1")
        self.assertEqual([desk("states"), desk("undo"), desk("states"), desk("redo"), desk("states")], ["k false", "set p 1", "k true", "set p 1", "k false"])
        desk.do_all("drop p", "undo")
        self.assertEqual([desk("states"), desk.claim_of("k")], ["k false", ("arrives", Net(2, [[-1, -2]]), [1], 0, 0)])

    def test_a_paper_between(self):
        desk = desk_of(HOME, "claim k arrives p 0 0", "set p 0,1", "undo")
        desk.attach("k", [4, 2])
        self.assertEqual([undone(desk), len(desk), desk("redo")], [["set p 0,1"], 2, "set p 0,1"])


class Together(DeskTestCase):

    def test_do_all(self):
        desk = Desk()
        told = desk.do_all(HOME, "long p 0", "undo", "redo", "names")
        self.assertEqual([told, told.__class__, desk.do_all()], [["-", "0 6", HOME, HOME, "p"], list, []])

    def test_none_has_an_effect_if_one_fails(self):
        desk = desk_of(HOME, "claim k arrives p 0 0", "set p 1,1", "undo")
        desk.attach("k", [4, 2])
        held = seen(desk)
        for lines, position, error, value in (
                (["drop p", "send p 1,0"], 1, UnknownName, "p"), (["send q 1"], 0, UnknownName, "q"), (["set p 0,1", "forget k", "undo", "undo", "claim k ends p 7"], 4, LabelTaken, None),
                (["undo", "undo", "undo"], 2, NothingToUndo, None), (["redo", "redo"], 1, NothingToRedo, None), (["names", "copy q p", "net q ends 0; point 0"], 2, NameTaken, None),
                (["drop p", "oh"], 1, InvalidCommand, "oh"), (["drop p", None], 1, InvalidCommand, None)):
            for function in (desk.do_all, desk.attempt):
                with self.assertRaises(CommandFailed) as caught:
                    function(*lines)
                self.assertIs(caught.exception.__class__, CommandFailed)
                self.assertEqual([caught.exception.position, caught.exception.__cause__.__class__, seen(desk)], [position, error, held])
                if value is not None:
                    self.assertEqual(caught.exception.__cause__.value, value)

    def test_attempt(self):
        desk = desk_of(HOME, "claim k arrives p 0 0", "set p 1,1", "undo")
        held = seen(desk)
        told = desk.attempt("set p 0,1", "copy q p", "drop p", "names", "states", "undo", "undo", "redo")
        self.assertEqual([told, seen(desk)], [["-", "-", "k gone", "q", "k gone", "drop p", "copy q p", "copy q p"], held])
        self.assertEqual([desk.attempt(), desk.attempt("redo"), desk.attempt("undo", "undo")[1], seen(desk)], [[], ["set p 1,1"], HOME, held])

    def test_copy(self):
        desk = desk_of(HOME, "claim k arrives p 0 0", "set p 1,1", "undo")
        desk.attach("k", [4, 2])
        twin = desk.copy()
        self.assertEqual([twin.__class__, seen(twin)], [Desk, seen(desk)])
        held = seen(desk)
        twin.do_all("redo", "drop p", "forget k")
        self.assertEqual(seen(desk), held)
        other = desk.copy()
        held = seen(other)
        desk.do_all("send p 1,0", "claim l ends p 0")
        desk.attach("k", [5, 2])
        self.assertEqual([seen(other), other("redo"), len(twin)], [held, "set p 1,1", 5])

    def test_papers_of_a_copy(self):
        desk = desk_of(HOME, "claim k arrives p 0 0")
        desk.attach("k", [4, 2])
        twin = desk.copy()
        desk.do("lay p 0 0")
        desk.attach("k", paper_of(desk.claim_of("k")))
        self.assertEqual([desk.fits("k"), twin.fits("k")], [True, True])
        twin.do("lay p 0 0")
        self.assertIs(twin.fits("k"), False)

    def test_again(self):
        lines = [HOME, "claim k arrives p 0 0", "set p 0,1", "copy q p", "drop p", "forget k"]
        for made in (lines, tuple(lines)):
            desk = Desk.again(made)
            self.assertEqual([desk.__class__, seen(desk)], [Desk, seen(desk_of(*lines))])
        self.assertEqual(seen(Desk.again([])), seen(Desk()))
        lines.append("undo")
        self.assertEqual(desk.lines(), lines[:-1])

    def test_again_of_wrong_lines(self):
        for value in ANY + [HOME, {HOME: 0}, {HOME}, iter([HOME]), None, desk_of(HOME)]:
            if not isinstance(value, (list, tuple)):
                with self.assertRaises(InvalidDeeds) as caught:
                    Desk.again(value)
                self.assertIsNone(caught.exception.position)
        for value in ANY + ["undo", "redo", "names", "states", "show p", "oh", "drop p ", "", [HOME], (HOME,)]:
            for lines, position in (([value], 0), ((HOME, value, None), 1), ([HOME, "drop q", value], 2)):
                with self.assertRaises(InvalidDeeds) as caught:
                    Desk.again(lines)
                self.assertEqual(caught.exception.position, position)
        for lines, position, error in (([HOME, HOME], 1, NameTaken), ([HOME, "set p 0,0", "drop q"], 2, UnknownName), (["forget k"], 0, UnknownLabel)):
            with self.assertRaises(CommandFailed) as caught:
                Desk.again(lines)
            self.assertEqual([caught.exception.position, caught.exception.__cause__.__class__], [position, error])


class Papers(DeskTestCase):

    def assert_no_paper(self, desk, label, paper):
        held = seen(desk)
        with self.assertRaises(InvalidPaper) as caught:
            desk.attach(label, paper)
        self.assertIs(caught.exception.value, paper)
        self.assertEqual(seen(desk), held)

    def test_papers_of_claims_and_of_contraries(self):
        desk = desk_of(HOME, "net t ends 2; point -1 -2", "net s ends 2; point 0 -1 0 -2")
        for words in ("arrives p 0 0", "misses p 0 0", "ends p 0", "never p 0", "least p 1,0 4,2", "more p 1,0 4,2", "least p 1,0 5,2", "more p 1,0 5,2",
                      "alike t 0 s 0", "parted t 0 s 0"):
            desk.do("claim k " + words)
            claim = desk.claim_of("k")
            paper = paper_of(claim if is_true(claim) else contrary(claim))
            self.assertIsNone(desk.attach("k", paper))
            self.assertEqual([desk.fits("k"), desk("forget k")], [True, "-"])
            # Under another claim of the label it doesn't fit, and fits again with the same words.
            desk.do("claim k ends t 0")
            self.assertEqual([desk.fits("k"), desk("forget k"), desk("claim k " + words).startswith("k "), desk.fits("k"), desk("forget k")],
                             [False, "-", True, True, "-"])

    def test_what_is_no_paper(self):
        desk = desk_of(HOME, "claim k arrives p 0 0", FIVE, "claim l least p 1,0 4,2")
        for value in ANY + [[4, 1], (0, [4, 2]), [4, 2, 0], {0: 4, 1: 2}, "4,2", [[4, 2]], [True, 2]]:
            self.assert_no_paper(desk, "k", value)
        self.assertIs(desk.fits("k"), False)
        for value in (None, [2, 1], [], [True, 2], "01"):
            self.assert_no_paper(desk, "l", value)
        # While the state is gone none is taken, though a judge would take it.
        desk.do_all("drop p", FIVE.replace("five", "p"), "set p 1,1,1,1,1")
        self.assertEqual(desk("state k"), "gone")
        self.assert_no_paper(desk, "k", [1, 0, 0, 0, 0])

    def test_papers_are_copied(self):
        desk = desk_of(HOME, "claim k arrives p 0 0", "claim l ends p 0")
        paper, visits = [4, 2], [4, 2]
        desk.attach("k", paper)
        desk.attach("l", (0, visits))
        paper[0] = 9
        visits.append(0)
        self.assertEqual([desk.fits("k"), desk.fits("l")], [True, True])
        desk.attach("k", (4, 2))
        self.assertIs(desk.fits("k"), True)

    def test_no_longer_fit_and_again(self):
        desk = desk_of(HOME, "claim k arrives p 0 0", "claim l least p 1,0 4,2")
        self.assertEqual([desk.fits("k"), desk.fits("l")], [False, False])
        desk.attach("k", [4, 2])
        desk.attach("l", [0, 1])
        for line, fits in (("set p 1,0", [True, False]), ("undo", [True, True]), ("lay p 0 0", [False, False]), ("undo", [True, True]), ("drop p", [False, False]),
                           (HOME, [True, True]), ("undo", [False, False]), ("undo", [True, True]), ("send p 3,3", [True, True]), ("forget l", [True])):
            desk.do(line)
            self.assertEqual([desk.fits(label) for label in desk.labels], fits, line)
        # Forgotten and noted again: kept as it was.
        desk.do("claim l least p 1,0 5,2")
        self.assertIs(desk.fits("l"), False)
        desk.do_all("forget l", "claim l least p 1,0 4,2")
        self.assertIs(desk.fits("l"), True)

    def test_other_words(self):
        # The paper would do for these claims, too, but it was attached while the claim had other words.
        desk = desk_of(HOME, "copy q p", "claim k arrives p 0 0")
        desk.attach("k", [4, 2])
        for words, fits in (("arrives q 0 0", False), ("arrives p 0 0", True), ("misses p 0 0", False), ("arrives p 0 0", True)):
            desk.do_all("forget k", "claim k " + words)
            self.assertIs(desk.fits("k"), fits)
        desk.do_all("forget k", "claim k misses p 0 0")
        desk.attach("k", [4, 2])
        self.assertEqual([desk.fits("k"), desk.do_all("undo", "undo", "states"), desk.fits("k")],
                         [True, ["claim k misses p 0 0", "forget k", "k true"], False])
        # With another label it is not kept.
        desk.do_all("claim l misses p 0 0")
        self.assertIs(desk.fits("l"), False)

    def test_of_what_it_was_kept_for(self):
        # A paper of the contrary stays one of the contrary.
        desk = desk_of("net p ends 2; point -1 -2", "claim k arrives p 0 1", "claim l misses p 0 1")
        for label in ("k", "l"):
            desk.attach(label, (0, [1]))
        self.assertEqual([desk("states"), desk.fits("k"), desk.fits("l")], ["k false, l true", True, True])
        desk.do("set p 1")
        self.assertEqual([desk("states"), desk.fits("k"), desk.fits("l")], ["k true, l false", False, False])
        # [1] would be a paper of the claim now, but the one that is kept isn't.
        desk.attach("k", [1])
        self.assertEqual([desk.fits("k"), desk("set p 0"), desk.fits("k"), desk("set p 1"), desk.fits("k")], [True, "k false, l true", False, "k true, l false", True])

    def test_the_same_value_for_either_claim(self):
        # Ranks of one flow, and then the same list a ring of another one: it was kept for `least`, and so it stays.
        desk = desk_of("net p ends 1; point 1; point 0 -1", "claim k least p 1,0 2,2")
        desk.attach("k", [0, 1])
        self.assertEqual([desk.fits("k"), desk("set p 0,1"), is_paper_of(contrary(desk.claim_of("k")), [0, 1]), desk.fits("k")],
                         [True, "k false", True, False])
        desk.attach("k", [0, 1])
        self.assertEqual([desk.fits("k"), desk("set p 0,0"), is_paper_of(desk.claim_of("k"), [0, 1]), desk.fits("k")],
                         [True, "k true", True, False])

    def test_another_one_takes_its_place(self):
        desk = desk_of("net p ends 1; point 0 -1", "claim k ends p 0")
        for visits in ([2], [3]):
            desk.attach("k", (0, visits))
            self.assertIs(desk.fits("k"), True)
            self.assert_no_paper(desk, "k", (0, [4]))
            self.assertIs(desk.fits("k"), True)
        desk.do("set p 1")
        self.assertIs(desk.fits("k"), False)
        desk.attach("k", (0, [1]))
        self.assertEqual([desk.fits("k"), desk("undo"), desk.fits("k"), desk("redo"), desk.fits("k")], [True, "set p 1", False, "set p 1", True])

    def test_within_a_trial(self):
        desk = desk_of(HOME, "claim k arrives p 0 0")
        with Trial(desk):
            desk.attach("k", [4, 2])
            self.assertIs(desk.fits("k"), True)
        self.assertIs(desk.fits("k"), False)
        desk.attach("k", [4, 2])
        with Trial(desk):
            desk.do("lay p 0 0")
            self.assertIs(desk.fits("k"), False)
            desk.attach("k", paper_of(desk.claim_of("k")))
            self.assertIs(desk.fits("k"), True)
        self.assertIs(desk.fits("k"), True)


class Trials(DeskTestCase):

    def test_a_block(self):
        desk = desk_of(HOME, "claim k arrives p 0 0", "set p 1,1", "undo")
        held = seen(desk)
        trial = Trial(desk)
        for _ in range(2):
            with trial as inside:
                self.assertIs(inside, desk)
                desk.do_all("redo", "drop p", "net q ends 0; point 0")
                self.assertEqual([desk.names, len(desk)], [["q"], 5])
            self.assertEqual(seen(desk), held)
        desk.do("redo")
        with trial:
            desk.do("undo")
        self.assertEqual([len(desk), desk("setting p")], [3, "1,1"])

    def test_an_error_goes_on(self):
        desk = desk_of(HOME)
        held = seen(desk)
        for error in (KeyError("out"), NotLeading(), StopIteration()):
            with self.assertRaises(error.__class__) as caught:
                with Trial(desk):
                    desk.do("drop p")
                    raise error
            self.assertEqual([caught.exception is error, seen(desk)], [True, held])
        with self.assertRaises(UnknownName):
            with Trial(desk) as inside:
                inside.do("drop p")
                inside.do("drop p")
        self.assertEqual(seen(desk), held)

    def test_tried(self):
        desk = desk_of(HOME)
        held = seen(desk)

        def action(one):
            one.do("send p 2,0")
            return [one is desk, one("come p")]
        self.assertEqual([tried(desk, action), seen(desk)], [[True, "2"], held])
        self.assertEqual([tried(desk, len), tried(desk, lambda one: one.do_all("drop p", "undo"))], [1, ["-", "drop p"]])
        with self.assertRaises(ZeroDivisionError):
            tried(desk, lambda one: [one.do("drop p"), 1 // 0])
        self.assertEqual(seen(desk), held)
        self.assertIs(tried(desk, lambda one: one), desk)


class RandomDeeds(DeskTestCase):

    def lines(self, chance):
        name, label = chance.choice("pqr"), chance.choice("kl")
        point, target, spot = chance.randrange(3), chance.randint(-3, 2), chance.randrange(3)
        return chance.choice([
            f"net {name} ends 2; point 1 -1; point 0 -2", f"net {name} ends 1; point 0 1; point 0 -1", f"net {name} ends 2; point -1 0 -2 1; point 0", f"drop {name}",
            f"copy {name} {chance.choice('pqr')}", f"set {name} {spot},{point}", f"send {name} {spot},{point}", f"lay {name} {point} {target}", f"take {name} {point} {spot}",
            f"swap {name} {point} {spot} 0", f"claim {label} arrives {name} {point} 0", f"claim {label} ends {name} 0", f"claim {label} misses {name} 0 1",
            f"claim {label} least {name} 0,0 0,0", f"claim {label} alike {name} 0 {chance.choice('pqr')} 0", f"claim {label} parted p 1 {name} 0", f"forget {label}",
            "undo", "undo", "redo", "names", f"flow {name} 1,1", f"state {label}"])

    def test_random_sequences(self):
        fails = done = 0
        for seed in range(60):
            chance = random.Random(seed)
            desk, lines = Desk(), []
            for _ in range(40):
                line = self.lines(chance)
                held = seen(desk)
                before = dict(zip(desk.labels, held[5]))
                try:
                    answer = desk.do(line)
                except (errors.TrackError, errors.MissingError, errors.StateError, errors.LimitError):
                    self.assertEqual(seen(desk), held)
                    fails += 1
                    continue
                done += 1
                now = {label: desk("state " + label) for label in desk.labels}
                if line == "undo":
                    self.assertEqual(answer, lines.pop())
                elif line == "redo":
                    lines.append(answer)
                elif line.split(" ")[0] in ("names", "flow", "state"):
                    self.assertEqual(seen(desk), held)
                else:
                    lines.append(line)
                    changed = [f"{label} {now[label]}" for label in sorted(now) if before.get(label) != now[label]]
                    self.assertEqual(answer, ", ".join(changed) or "-")
                self.assertEqual([desk.lines(), len(desk)], [lines, len(lines)])
                for label in desk.labels:
                    claim = desk.claim_of(label)
                    self.assertEqual(now[label], "gone" if claim is None else "true" if is_true(claim) else "false")
            again = Desk.again(desk.lines())
            self.assertEqual(seen(again)[:-1], seen(desk)[:-1])
            for name in desk.names:
                net, setting, come = desk[name]
                # What has come and the setting fit: each train sent has come.
                self.assertEqual([len(come), len(setting)], [net.ends, net.points])
        self.assertGreater(min(fails, done), 400)

    def test_sent_like_plain_trains(self):
        chance = random.Random(962)
        for _ in range(20):
            desk = desk_of("net p ends 2; point 1 -1 0; point 0 2 -2; point 2 0 -1")
            exits, marks, come = desk["p"][0].exits(), (0, 0, 0), [0, 0]
            for _ in range(6):
                starts = [chance.randrange(3) for _ in range(3)]
                desk.do("send p " + ",".join(str(many) for many in starts))
                for begin, many in enumerate(starts):
                    for _ in range(many):
                        where, marks, _ = plain_run(exits, marks, begin, 10 ** 5)
                        come[-1 - where] += 1
                self.assert_yard(desk, "p", exits, marks, tuple(come))


if __name__ == "__main__":
    unittest.main()
