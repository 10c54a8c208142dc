"""Pairs of settings to which two pieces come, one train after another."""

from flippedpoints.dealing import come_to_ends, deals_of, setting_behind
from flippedpoints.errors import TooMany
from flippedpoints.fast import few_points_cut_of, one_train
from flippedpoints.knots import least_by_cut
from flippedpoints.nets import MOST_ENDS

FEW_STEPS = 500


class Passage:
    """What one train makes of the settings of a piece, each of them looked at once."""

    def __init__(self, rows, doors):
        self.rows = rows
        self.doors = doors
        self.cut = few_points_cut_of(rows)
        self.known = {}

    def outcomes(self, setting):
        """For each entrance the end to which a train comes from it, and the setting behind this train, tuples."""
        if setting not in self.known:
            self.known[setting] = [self._outcome(setting, door) for door in self.doors]
        return self.known[setting]

    def _outcome(self, setting, door):
        # Most trains are out by few steps, and these are gone faster than a flow is found.
        marks = list(setting)
        where = door
        for _ in range(FEW_STEPS):
            row = self.rows[where]
            spot = marks[where]
            marks[where] = (spot + 1) % len(row)
            where = row[spot]
            if where < 0:
                return -1 - where, tuple(marks)
        return self._far_outcome(setting, door)

    def _far_outcome(self, setting, door):
        visits = least_by_cut(self.rows, setting, one_train(len(self.rows), door), self.cut)
        come = come_to_ends(deals_of(self.rows, setting), MOST_ENDS, visits)
        return come.index(1), tuple(setting_behind(self.rows, setting, visits))


def walked(passage, other, pair, most):
    """The pairs that are looked at, and the least inputs by which the pieces are parted; None if they are alike."""
    seen = {}
    level = {pair: [0] * len(passage.doors)}
    while level:
        for found in level:
            seen[found] = True
        if len(seen) > most:
            raise TooMany("pairs", most)
        parted, level = _one_train_more(passage, other, level, seen)
        if parted:
            return sorted(seen), min(parted)
    return sorted(seen), None


def _one_train_more(passage, other, level, seen):
    """The inputs whose last train comes to unlike ends, and the new pairs behind others, each with its least inputs."""
    parted = []
    later = {}
    for (setting, marks), inputs in level.items():
        ones = passage.outcomes(setting)
        twos = other.outcomes(marks)
        for door, ((end, behind), (goal, further)) in enumerate(zip(ones, twos)):
            fed = [many + int(at == door) for at, many in enumerate(inputs)]
            pair = (behind, further)
            if end != goal:
                parted.append(fed)
            elif pair not in seen:
                later[pair] = min(later.get(pair, fed), fed)
    return parted, later
