"""How often the points of a cut are left, looked for one within the other, over rows of exits."""

from flippedpoints.cutting import order_without
from flippedpoints.dealing import deals_of


class Span:
    """The numbers among which the least one is looked for that is not below what comes back."""

    def __init__(self, guess, spread):
        self.at = max(guess, 0)
        # About how much greater a number is to be, if one more train is not to come back.
        self.spread = spread
        self.low = -1
        self.high = None

    def narrow(self, over):
        """Go on to another number, behind one that is so much over what came back, and isn't the one looked for."""
        if over == 0:
            over = 1
        if over < 0:
            # If the number is greater by one, it is over by one more at most.
            self.low = self.at - over - 1
        else:
            self.high = self.at - over
        if self.low >= 0 and self.high is not None:
            self.at = self.low + (self.high - self.low + 1) // 2
            return
        self.at = max(self.at - over * self.spread, self.low + 1)
        if self.high is not None:
            self.at = min(self.at, self.high)
        self.spread *= 2


class Narrowing:
    """The least flow of a net, looked for by a cut; a target below 0 is an end."""

    def __init__(self, rows, setting, starts, cut):
        self.rows = rows
        self.setting = setting
        self.starts = starts
        self.cut = cut
        self.order = order_without(rows, cut)
        self.incoming = [[] for _ in rows]
        for source, ahead, exits, target in deals_of(rows, setting):
            if target >= 0:
                self.incoming[target].append((source, ahead, exits))
        self.visits = [0] * len(rows)
        # Guesses are reckoned in parts of a whole so fine that numbers of thirty digits don't feel it.
        self.whole = 10 ** 60
        self.guesses = self._guess_rows()

    def least(self):
        """The least flow."""
        self._settle(0)
        return list(self.visits)

    def _settle(self, level):
        """Find how often the cut's points from this level on are left, and all others; those ahead are told."""
        if level == len(self.cut):
            for point in self.order:
                self.visits[point] = self._arriving(point)
            return
        span = self._first_span(level)
        over = self._look(level, span.at)
        while over != 0 or self._comes_round(level):
            span.narrow(over)
            over = self._look(level, span.at)

    def _look(self, level, many):
        """By how much this number of the cut's point is over what comes to it then."""
        point = self.cut[level]
        self.visits[point] = many
        self._settle(level + 1)
        return many - self._arriving(point)

    def _arriving(self, point):
        visits = self.visits
        return self.starts[point] + sum([(visits[source] + ahead) // exits
                                         for source, ahead, exits in self.incoming[point]])

    def _comes_round(self, level):
        """Whether last exits lead from the cut's point to it again, not through a told one: so less would do."""
        first = self.cut[level]
        told = self.cut[:level]
        point = self._last_target(first)
        while point >= 0 and point != first and point not in told:
            point = self._last_target(point)
        return point == first

    def _last_target(self, point):
        """Where the point's last exit leads; an end if it isn't visited."""
        many = self.visits[point]
        row = self.rows[point]
        return row[(self.setting[point] + many - 1) % len(row)] if many > 0 else -1

    def _first_span(self, level):
        """The numbers for this point of the cut, from a guess by those told."""
        parts = self.guesses[level]
        rest = self.whole - parts[level + 1]
        guess = parts[0]
        for ahead in range(level):
            guess += parts[ahead + 1] * self.visits[self.cut[ahead]]
        return Span(guess // rest, self.whole // rest)

    def _guess_rows(self):
        """For each point of the cut what comes to it about: without the cut's points, and for each visit of these.

        Points of the cut behind it are taken as left just as often as trains come to them."""
        lines = {point: self._unit(at) for at, point in enumerate(self.cut)}
        for point in self.order:
            lines[point] = self._about(lines, point)
        rows = [self._about(lines, point) for point in self.cut]
        for last in reversed(range(len(rows))):
            rest = self.whole - rows[last][last + 1]
            for ahead in range(last):
                factor = rows[ahead][last + 1]
                rows[ahead] = [part + factor * more // rest for part, more in zip(rows[ahead], rows[last])]
        return rows

    def _unit(self, at):
        """The line of the cut's point itself: one for each visit of it."""
        return [self.whole if place == at + 1 else 0 for place in range(len(self.cut) + 1)]

    def _about(self, lines, point):
        """What comes to the point if each visit is parted by the exits, from where the setting stands."""
        line = [self.starts[point] * self.whole] + [0] * len(self.cut)
        for source, ahead, exits in self.incoming[point]:
            line = [part + more // exits for part, more in zip(line, lines[source])]
            # What is dealt is rounded down by this on the average.
            line[0] += (2 * ahead + 1 - exits) * self.whole // (2 * exits)
        return line
