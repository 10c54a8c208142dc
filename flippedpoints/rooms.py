"""What a desk keeps at some time, yards and claims; what deeds make of it, and what is told of it."""

from flippedpoints.claims import is_true
from flippedpoints.commands import CLAIMS, list_text
from flippedpoints.errors import LabelTaken, NameTaken, NotLeading, TooMany, TrackError, UnknownLabel, UnknownName
from flippedpoints.pieces import Piece
from flippedpoints.yards import told_of, yard_behind, yard_of

MOST_NAMES = 8
MOST_LABELS = 8


class Room:
    """Yards by names, notes of claims and their states by labels; never changed, as a deed makes another room."""

    def __init__(self, yards, notes, states):
        self.yards = yards
        # A note is the list of the parts of a claim as a command has them, its word first.
        self.notes = notes
        self.states = states


def yard_in(yards, name):
    """The yard of this name, which may be any value."""
    if not isinstance(name, str) or name not in yards:
        raise UnknownName(name)
    return yards[name]


def note_in(room, label):
    """The note of this label, which may be any value."""
    if not isinstance(label, str) or label not in room.notes:
        raise UnknownLabel(label)
    return room.notes[label]


def names_in(note):
    """The names of the yards that the claim speaks of."""
    return [part for kind, part in zip(CLAIMS[note[0]], note[1:]) if kind == "name"]


def claim_in(yards, note):
    """The tuple that the note tells with these yards, be it a claim or not."""
    kept = [yard_in(yards, name) for name in names_in(note)]
    if len(kept) == 2:
        doors = [note[2], note[4]]
        one, two = [Piece(net, setting, points) for (net, setting, _), points in zip(kept, doors)]
        return note[0], one, two
    net, setting, _ = kept[0]
    rest = [list(part) if isinstance(part, list) else part for part in note[2:]]
    return (note[0], net, list(setting)) + tuple(rest)


def _state_of(yards, note):
    """The state of a label with this note."""
    try:
        return _state_word(claim_in(yards, note))
    except (UnknownName, TrackError, NotLeading, TooMany):
        return "gone"


def _state_word(claim):
    return "true" if is_true(claim) else "false"


def room_behind(room, word, parts):
    """The room behind a deed of this word."""
    if word == "claim":
        return _noted(room, parts[0], parts[1:])
    if word == "forget":
        return _forgotten(room, parts[0])
    name = parts[0]
    yards = dict(room.yards)
    if word in ("net", "copy"):
        if name in yards:
            raise NameTaken(name)
        yards[name] = yard_of(parts[1]) if word == "net" else yard_in(yards, parts[1])
    elif word == "drop":
        yard_in(yards, name)
        del yards[name]
    else:
        yards[name] = yard_behind(yard_in(yards, name), word, parts[1:])
    if len(yards) > MOST_NAMES:
        raise TooMany("names", MOST_NAMES)
    states = dict(room.states)
    for label, note in room.notes.items():
        if name in names_in(note):
            states[label] = _state_of(yards, note)
    return Room(yards, room.notes, states)


def _noted(room, label, note):
    if label in room.notes:
        raise LabelTaken(label)
    state = _state_word(claim_in(room.yards, note))
    if len(room.notes) == MOST_LABELS:
        raise TooMany("labels", MOST_LABELS)
    notes = dict(room.notes)
    notes[label] = note
    states = dict(room.states)
    states[label] = state
    return Room(room.yards, notes, states)


def _forgotten(room, label):
    note_in(room, label)
    notes = dict(room.notes)
    del notes[label]
    states = dict(room.states)
    del states[label]
    return Room(room.yards, notes, states)


def changes_text(room, later):
    """The labels whose states are other ones in the later room, with these."""
    changed = [label for label in later.states if room.states.get(label) != later.states[label]]
    return _states_text(later.states, changed)


def _states_text(states, labels):
    return ", ".join([f"{label} {states[label]}" for label in sorted(labels)]) or "-"


def _words_of(note):
    """The words of the claim, as a command has them."""
    return " ".join([list_text(part) if isinstance(part, list) else str(part) for part in note])


def answer_in(room, word, parts):
    """The answer to a command of this word that changes nothing."""
    if word == "state":
        note_in(room, parts[0])
        return room.states[parts[0]]
    if word == "states":
        return _states_text(room.states, list(room.states))
    if word == "claimed":
        return _words_of(note_in(room, parts[0]))
    if word == "names":
        return " ".join(sorted(room.yards)) or "-"
    yard = yard_in(room.yards, parts[0])
    if word == "same":
        return "yes" if yard == yard_in(room.yards, parts[1]) else "no"
    return told_of(yard, word, parts[1:])
