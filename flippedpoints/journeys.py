"""Where a train is behind so many steps of its run, over rows of exits: also where nobody could follow it."""

from flippedpoints.dealing import setting_behind
from flippedpoints.knots import least_by_cut


class Journey:
    """A train on its way, and how often it has left each point."""

    def __init__(self, rows, setting, begin, cut, whole):
        self.rows = rows
        self.setting = setting
        self.cut = cut
        # The visits of the whole run.
        self.whole = whole
        self.where = begin
        self.visits = [0] * len(rows)

    def go(self, steps):
        """Go so many steps, fewer than the whole run has; to be called once."""
        left = steps
        for point in self.cut:
            left -= self._go_through(point, left)
        # No point of the cut is left in these steps, so they are fewer than there are points.
        for _ in range(left):
            self._leave(self.where, 1)

    def _go_through(self, point, steps):
        """Go on, within so many steps, as far as the point is left; how many steps that takes."""
        low = 0
        high = self.whole[point]
        while low < high:
            middle = (low + high) // 2
            if sum(self._others_until(point, middle)) + middle < steps:
                low = middle + 1
            else:
                high = middle
        if low == 0:
            return 0
        others = self._others_until(point, low - 1)
        for other, many in enumerate(others):
            self.visits[other] += many
        self._leave(point, low)
        return sum(others) + low

    def _leave(self, point, many):
        """Let the train leave a point so many times, the last time now."""
        row = self.rows[point]
        self.visits[point] += many
        self.where = row[(self.setting[point] + self.visits[point] - 1) % len(row)]

    def _others_until(self, point, many):
        """How often the other points are left until the train is at the point, having left it so many times more."""
        # It comes back by each of the exits, so as many trains begin where these lead.
        spots = setting_behind(self.rows, self.setting, self.visits)
        row = self.rows[point]
        starts = [int(other == self.where) for other in range(len(self.rows))]
        for at, target in enumerate(row):
            if target >= 0:
                starts[target] += (many + len(row) - 1 - (at - spots[point]) % len(row)) // len(row)
        rows = [[-1] if other == point else exits for other, exits in enumerate(self.rows)]
        spots[point] = 0
        visits = least_by_cut(rows, spots, starts, self.cut)
        visits[point] = 0
        return visits
