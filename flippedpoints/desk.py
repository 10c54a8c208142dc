"""A desk: yards under names, claims under labels, deeds that can be taken back, and papers kept with labels."""

from flippedpoints.basics import is_row
from flippedpoints.claims import contrary, is_paper_of
from flippedpoints.commands import is_deed, is_deed_word, parts_of
from flippedpoints.errors import CommandFailed, InvalidCommand, InvalidDeeds, InvalidPaper, LimitError, MissingError
from flippedpoints.errors import NothingToRedo, NothingToUndo, StateError, TooMany, TrackError
from flippedpoints.rooms import Room, answer_in, changes_text, claim_in, note_in, room_behind, yard_in

MOST_DEEDS = 200


class Holding:
    """All of a desk at some time; never changed, as what changes the desk makes another one."""

    def __init__(self, room, done, undone, papers):
        self.room = room
        # Tuples of the line of a deed and the room ahead of it.
        self.done = done
        # Tuples of the line of a deed that was taken back and the room behind it; the last one was taken back last.
        self.undone = undone
        # By labels: the note as it was then, whether it is a paper of the claim or of its contrary, and the paper.
        self.papers = papers


class Desk:
    """A desk that does commands."""

    def __init__(self):
        self._held = Holding(Room({}, {}, {}), [], [], {})

    @property
    def names(self):
        """The names under which a yard is kept, sorted."""
        return sorted(self._held.room.yards)

    @property
    def labels(self):
        """The labels under which a claim is noted, sorted."""
        return sorted(self._held.room.notes)

    def __len__(self):
        return len(self._held.done)

    def __contains__(self, name):
        return isinstance(name, str) and name in self._held.room.yards

    def __getitem__(self, name):
        return yard_in(self._held.room.yards, name)

    def __iter__(self):
        raise TypeError("a desk is not iterated over")

    def __call__(self, command):
        return self.do(command)

    def claim_of(self, label):
        """The claim of the label, with what is kept now; None while its state is gone."""
        room = self._held.room
        note = note_in(room, label)
        return None if room.states[label] == "gone" else claim_in(room.yards, note)

    def do(self, command):
        """The answer to the command, which is done."""
        parts = parts_of(command)
        if parts is None:
            raise InvalidCommand(command)
        word, *rest = parts
        if word == "undo":
            return self._undo()
        if word == "redo":
            return self._redo()
        if is_deed_word(word):
            return self._do_deed(command, word, rest)
        return answer_in(self._held.room, word, rest)

    def _do_deed(self, line, word, parts):
        held = self._held
        later = room_behind(held.room, word, parts)
        if len(held.done) == MOST_DEEDS:
            raise TooMany("deeds", MOST_DEEDS)
        self._held = Holding(later, held.done + [(line, held.room)], [], held.papers)
        return changes_text(held.room, later)

    def _undo(self):
        held = self._held
        if not held.done:
            raise NothingToUndo()
        line, ahead = held.done[-1]
        self._held = Holding(ahead, held.done[:-1], held.undone + [(line, held.room)], held.papers)
        return line

    def _redo(self):
        held = self._held
        if not held.undone:
            raise NothingToRedo()
        line, behind = held.undone[-1]
        self._held = Holding(behind, held.done + [(line, held.room)], held.undone[:-1], held.papers)
        return line

    def do_all(self, *commands):
        """The list of the answers to the commands, which are all done, or none of them."""
        held = self._held
        answers = []
        for at, command in enumerate(commands):
            try:
                answers.append(self.do(command))
            except (TrackError, MissingError, StateError, LimitError) as wrong:
                self._held = held
                raise CommandFailed(at) from wrong
        return answers

    def attempt(self, *commands):
        """The answers that the commands would have, one behind another; all is as before."""
        with Trial(self) as desk:
            return desk.do_all(*commands)

    def attach(self, label, paper):
        """Keep a paper of the label's claim, or of its contrary, with the label."""
        claim = self.claim_of(label)
        if claim is None:
            raise InvalidPaper(paper)
        of_claim = is_paper_of(claim, paper)
        if not of_claim and not is_paper_of(contrary(claim), paper):
            raise InvalidPaper(paper)
        held = self._held
        papers = dict(held.papers)
        papers[label] = (note_in(held.room, label), of_claim, _copied(paper))
        self._held = Holding(held.room, held.done, held.undone, papers)

    def fits(self, label):
        """Whether the paper that is kept with the label is one of what it was kept for, as things are now."""
        claim = self.claim_of(label)
        held = self._held
        if claim is None or label not in held.papers:
            return False
        note, of_claim, paper = held.papers[label]
        if note != note_in(held.room, label):
            return False
        return is_paper_of(claim if of_claim else contrary(claim), paper)

    def lines(self):
        """The lines of the deeds that are not taken back."""
        return [line for line, _ in self._held.done]

    def copy(self):
        """A desk that has all of this one and goes on by itself."""
        desk = Desk()
        desk._held = self._held
        return desk

    @classmethod
    def again(cls, lines):
        """A desk that has done these deeds."""
        if not is_row(lines):
            raise InvalidDeeds(None)
        for at, line in enumerate(lines):
            if not is_deed(line):
                raise InvalidDeeds(at)
        desk = cls()
        desk.do_all(*lines)
        return desk


def _copied(paper):
    """The paper with new lists in it."""
    if isinstance(paper, list):
        return [_copied(part) for part in paper]
    if isinstance(paper, tuple):
        return tuple([_copied(part) for part in paper])
    return paper


class Trial:
    """A block behind which all of a desk is as it was ahead."""

    def __init__(self, desk):
        self._desk = desk
        self._ahead = None

    def __enter__(self):
        desk = self._desk
        self._ahead = desk._held
        return desk

    def __exit__(self, *told):
        desk = self._desk
        desk._held = self._ahead


def tried(desk, action):
    """What the function returns for the desk, which is as before then."""
    with Trial(desk) as held:
        return action(held)
