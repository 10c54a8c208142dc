"""What several test files share: wrong values, plain machines that know nothing of the package, and call tables."""

import copy
import inspect
import random

from flippedpoints.nets import Net
from flippedpoints.pieces import Piece


class Oddity:
    """A value of no kind that the package knows."""


HUGE = 10 ** 30
PAIR = Net(1, [[0, 1], [0, -1]])
# Values that are of no kind that a parameter asks for; more are put beside them where they are wrong, too.
STRANGE = [None, True, False, "", "0", "least ", b"0", {}, {0: 0}, {0}, frozenset([1]), range(2), Oddity(), Oddity, len,
           [None], (None,), [True], (False,), ["0"], [[]], [[0]], ([0],), [(0,)], ((0,), (0,)), [{}], ({},), [[[0]]],
           "point", 1 + 2j, [0, [0]], (0, (0, (0, (0,))))]
INTEGERS = [0, 1, -1, 5, 23, 24, -7, HUGE - 1, HUGE, -HUGE]
LISTS = [[], (), [0], (0,), [0, 0], (0, 0), [0] * 25, [-1], [HUGE]]


def strange_but(*kinds):
    """All values but those of these kinds; for a parameter that takes no other ones."""
    return [value for value in STRANGE + INTEGERS + LISTS + [PAIR] if not isinstance(value, kinds)]


def wrong_nets():
    return strange_but(Net) + [PAIR.exits(), (1, PAIR.exits()), Net]


def wrong_pieces():
    return strange_but(Piece) + [PAIR.exits(), (PAIR, [0, 0], [0]), [PAIR, [0, 0], [0]], Piece]


def wrong_indexes(bound):
    """Wrong values for what is a COUNT below a bound."""
    return STRANGE + LISTS + [PAIR, -1, bound, bound + 1, HUGE, -HUGE]


def wrong_rows(right, least, bounds):
    """Wrong values for a list of an INTEGER from `least` on for each point, below the bounds."""
    many = len(right)
    rows = []
    for make in (list, tuple):
        rows.append(make(right[:-1]))
        rows.append(make(list(right) + [least]))
        for at in range(many):
            for value in (least - 1, bounds[at], True, False, None, "0", [right[at]], (right[at],), {}, b"0", PAIR):
                rows.append(make(list(right[:at]) + [value] + list(right[at + 1:])))
    kinds = strange_but(list, tuple) + [dict(enumerate(right)), set(right), str(right), iter(right), [list(right)],
                                        (tuple(right),), "0" * many, b"0" * many]
    return rows + kinds


def wrong_numbers(right):
    return wrong_rows(right, 0, [HUGE] * len(right))


def wrong_settings(net, right):
    return wrong_rows(right, 0, [len(row) for row in net.exits()])


class Call:
    """A function, valid arguments by their names, and for each the error and values for which it is raised."""

    def __init__(self, function, good, wrong=None, asked=False):
        self.function = function
        self.names = list(good)
        self.good = list(good.values())
        self.wrong = wrong or {}
        # Whether the last parameter takes any value.
        self.asked = asked

    def with_wrong(self, name, value):
        return [value if own == name else held for own, held in zip(self.names, self.good)]


class CallTests:
    """Checks of a table of calls; a test class beside unittest.TestCase gives them as `calls()`."""

    def assert_raises_just(self, error, call, arguments, value):
        with self.assertRaises(error) as caught:
            call.function(*arguments)
        self.assertIs(caught.exception.__class__, error)
        if hasattr(caught.exception, "value"):
            self.assertIs(caught.exception.value, value)

    def test_parameters_have_the_names_of_the_interface(self):
        for call in self.calls():
            with self.subTest(call.function.__name__):
                self.assertEqual(list(inspect.signature(call.function).parameters), call.names)

    def test_position_and_names_are_alike(self):
        for call in self.calls():
            with self.subTest(call.function.__name__):
                named = dict(reversed(list(zip(call.names, call.good))))
                self.assertEqual(call.function(*call.good), call.function(**named))

    def test_each_wrong_value_raises_its_error(self):
        for call in self.calls():
            for name, (error, values) in call.wrong.items():
                for value in values:
                    with self.subTest(call.function.__name__, name=name, value=value):
                        self.assert_raises_just(error, call, call.with_wrong(name, value), value)

    def test_of_several_wrong_values_the_first_one_is_told(self):
        for call in self.calls():
            told = [(name, error, values[0]) for name, (error, values) in call.wrong.items()]
            for at, (name, error, value) in enumerate(told):
                arguments = call.with_wrong(name, value)
                for later, _, other in told[at + 1:]:
                    arguments[call.names.index(later)] = other
                    with self.subTest(call.function.__name__, name=name, later=later):
                        self.assert_raises_just(error, call, arguments, value)

    def test_nothing_that_was_passed_is_changed(self):
        for call in self.calls():
            with self.subTest(call.function.__name__):
                held = copy.deepcopy(call.good)
                call.function(*call.good)
                self.assertEqual(call.good, held)
                self.assertEqual([kinds_of(value) for value in call.good], [kinds_of(value) for value in held])

    def test_returned_lists_are_new_each_time(self):
        for call in self.calls():
            with self.subTest(call.function.__name__):
                told = call.function(*call.good)
                held = copy.deepcopy(told)
                spoil(told)
                self.assertEqual(call.function(*call.good), held)

    def test_lists_may_be_passed_as_tuples(self):
        for call in self.calls():
            with self.subTest(call.function.__name__):
                arguments = [tuple(value) if isinstance(value, list) else value for value in call.good]
                self.assertEqual(call.function(*arguments), call.function(*call.good))

    def test_a_question_about_any_value_gives_a_bool(self):
        for call in self.calls():
            if call.asked:
                values = STRANGE + INTEGERS + LISTS + wrong_numbers([0, 1]) + [PAIR]
                for value in values + [(value,) * 2 for value in values] + [(value,) * 3 for value in values]:
                    with self.subTest(call.function.__name__, value=value):
                        self.assertIsInstance(call.function(*call.good[:-1], value), bool)


def kinds_of(value):
    """The kinds of a value and of what is in it; for a Net and a Piece their parts, too."""
    if isinstance(value, (list, tuple)):
        return [value.__class__] + [kinds_of(part) for part in value]
    if isinstance(value, Net):
        return [Net, value.ends, value.exits(), value.targets()]
    if isinstance(value, Piece):
        return [Piece, kinds_of(value.net()), value.setting(), value.entrances()]
    return value.__class__


def spoil(value):
    """Change each list in a value."""
    if isinstance(value, (list, tuple)):
        for part in value:
            spoil(part)
    if isinstance(value, list):
        value.append("spoilt")


# Plain machines: they take rows of exits, and share no code with the package.


def plain_leads(exits, point, target):
    """Whether a row of at least one track leads from the point to the target."""
    seen, open_points = set(), [point]
    while open_points:
        for goal in exits[open_points.pop()]:
            if goal == target:
                return True
            if goal >= 0 and goal not in seen:
                seen.add(goal)
                open_points.append(goal)
    return False


def plain_is_leading(ends, exits):
    return all(any(plain_leads(exits, point, -1 - end) for end in range(ends)) for point in range(len(exits)))


def plain_run(exits, setting, begin, most):
    """Where the train is, the setting, the tracks gone."""
    table = [[(target, sum(map(len, exits[:point])) + spot) for spot, target in enumerate(row)]
             for point, row in enumerate(exits)]
    queues = [row[spot:] + row[:spot] for row, spot in zip(table, setting)]
    where, tracks = begin, []
    while where >= 0 and len(tracks) < most:
        queue = queues[where]
        way = queue.pop(0)
        queue.append(way)
        tracks.append(way[1])
        where = way[0]
    return where, tuple(row.index(queue[0]) for row, queue in zip(table, queues)), tracks


def plain_gone(exits, setting, visits):
    """How often each track is gone, one visit after another."""
    told = []
    for row, spot, many in zip(exits, setting, visits):
        turns = [0] * len(row)
        for at in range(many):
            turns[(spot + at) % len(row)] += 1
        told += turns
    return told


def plain_arriving(exits, setting, starts, visits):
    targets = [target for row in exits for target in row]
    gone = plain_gone(exits, setting, visits)
    return [many + sum(times for times, target in zip(gone, targets) if target == point)
            for point, many in enumerate(starts)]


def plain_flows(exits, setting, starts, most):
    """All flows with no number above most, by trying all."""
    rows = [[]]
    for _ in exits:
        rows = [row + [many] for row in rows for many in range(most + 1)]
    return [row for row in rows if plain_arriving(exits, setting, starts, row) == row]


def plain_visits(exits, setting, starts, most):
    """How often each point is left till no train waits, and the setting then; None if that takes more moves."""
    waiting, marks, visits = list(starts), list(setting), [0] * len(exits)
    while any(waiting):
        if sum(visits) == most:
            return None
        point = max(range(len(exits)), key=waiting.__getitem__)
        target = exits[point][marks[point]]
        marks[point] = (marks[point] + 1) % len(exits[point])
        visits[point] += 1
        waiting[point] -= 1
        if target >= 0:
            waiting[target] += 1
    return visits, marks


def random_nets(seed, many, points=4, exits=3, ends=2, leading=None):
    """Tuples of a net and a setting, always the same ones for a seed."""
    chance = random.Random(seed)
    found = []
    while len(found) < many:
        size = chance.randint(1, points)
        last = chance.randint(0, ends)
        rows = [[chance.randint(-last, size - 1) for _ in range(chance.randint(1, exits))] for _ in range(size)]
        if leading is None or plain_is_leading(last, rows) == leading:
            found.append((Net(last, rows), [chance.randrange(len(row)) for row in rows]))
    return found


def wrong_lots(points):
    """Wrong values for a rising list of points, of a net with two points or more."""
    rows = [[0, 0], [1, 0], [1, 1], [points], [0, points], [-1], [-1, 0], [HUGE], [-HUGE], [True], [False], [0, True], [False, 1],
            [None], ["0"], [[0]], [(0,)], [{}], [b"0"], [PAIR], list(range(points + 1)), list(range(points)) + [0], [0, 1, 0]]
    made = [make(row) for row in rows for make in (list, tuple)]
    return made + strange_but(list, tuple) + [{0}, {0: 1}, "01", range(1), iter([0]), [[], 0], [0, []]]


def wrong_times():
    return STRANGE + LISTS + [PAIR, -1, HUGE, HUGE + 1, -HUGE]


def plain_rings(exits):
    """The sets of points of all rings of tracks that go through no point twice."""
    found = set()

    def go(begin, way):
        for target in exits[way[-1]]:
            if target == begin:
                found.add(frozenset(way))
            elif target > begin and target not in way:
                go(begin, way + [target])

    for begin in range(len(exits)):
        go(begin, [begin])
    return found


def plain_is_cut(exits, lot):
    return all(ring & set(lot) for ring in plain_rings(exits))


def far_gone(exits, setting, visits):
    """How often each track is gone, by whole turns and what is left beside them."""
    told = []
    for row, spot, many in zip(exits, setting, visits):
        whole, rest = divmod(many, len(row))
        extra = [(spot + at) % len(row) for at in range(rest)]
        told += [whole + (at in extra) for at in range(len(row))]
    return told


def far_come(ends, exits, setting, visits):
    """How many have come to each end."""
    come = [0] * ends
    for target, many in zip([target for row in exits for target in row], far_gone(exits, setting, visits)):
        if target < 0:
            come[-1 - target] += many
    return come


def far_is_least(exits, setting, starts, visits):
    """Whether visits of any size are a flow whose last exits make no ring."""
    found = list(starts)
    for target, many in zip([target for row in exits for target in row], far_gone(exits, setting, visits)):
        if target >= 0:
            found[target] += many
    if found != list(visits):
        return False
    lasts = [row[(spot + many - 1) % len(row)] for row, spot, many in zip(exits, setting, visits)]
    for begin in range(len(exits)):
        point, steps = begin, 0
        while point >= 0 and visits[point] > 0 and steps <= len(exits):
            point, steps = lasts[point], steps + 1
        if steps > len(exits):
            return False
    return True


def one_at(points, begin):
    return [int(point == begin) for point in range(points)]


def big_net(seed, points=24, tracks=60, ends=2, reach=None):
    """A leading net of so many points and tracks, and a setting; most targets within reach of their points, if this is told."""
    chance = random.Random(seed)
    sizes = [1] * points
    while sum(sizes) < tracks:
        at = chance.randrange(points)
        sizes[at] += sizes[at] < 6
    rows = []
    for point, size in enumerate(sizes):
        least, most = (-ends, points - 1) if reach is None else (point - reach, point + reach)
        rows.append([max(-ends, min(points - 1, chance.randint(least, most))) for _ in range(size)])
    found = []
    while len(found) < points:
        found = [point for point in range(points) if any(plain_leads(rows, point, -1 - end) for end in range(ends))]
        lost = [point for point in range(points) if point not in found]
        if lost:
            row = rows[chance.choice(lost)]
            row[chance.randrange(len(row))] = chance.choice(found + [-1])
    return Net(ends, rows), [chance.randrange(size) for size in sizes]


def plain_entered(exits, setting, begin, lost):
    """Where a train comes first, an end or one of the lost points, and how often it left each point till then."""
    marks, visits, where = list(setting), [0] * len(exits), begin
    while where >= 0 and where not in lost:
        visits[where] += 1
        spot = marks[where]
        marks[where] = (spot + 1) % len(exits[where])
        where = exits[where][spot]
    return where, visits


def plain_lost(ends, exits):
    return [point for point in range(len(exits)) if not any(plain_leads(exits, point, -1 - end) for end in range(ends))]


# Half of what leaves a point of these goes on to lost points, in which there are many rings.
def trapped(ends, points, lost):
    """A net of so many points, of which the last ones are lost: each of them leads to itself and to the next one."""
    rows = [[at + 1, -1 - at % ends if ends else points - 1] for at in range(points - lost)]
    return Net(ends, rows + [[at, max(points - lost, (at + 1) % points)] for at in range(points - lost, points)])
