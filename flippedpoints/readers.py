"""Texts of nets and of settings, written and read."""

from flippedpoints.errors import BadText
from flippedpoints.nets import MOST_ENDS, MOST_EXITS, MOST_POINTS, MOST_TRACKS
from flippedpoints.nets import Net, check_net, check_setting


def net_text(net):
    """The text of the net."""
    check_net(net)
    rows = [_line("point", row) for row in net.exits()]
    return "".join([_line("ends", [net.ends])] + rows)


def setting_text(net, setting):
    """The text of the setting."""
    check_net(net)
    check_setting(net, setting)
    return _line("next", setting)


def _line(word, numbers):
    """The end k is -1 - k, so a target's own digits are those that the text wants."""
    return " ".join([word] + [str(number) for number in numbers]) + "\n"


def net_of(text):
    """The net that has the text."""
    _check_text(text)
    lines = text.split("\n")
    if lines[-1] == "":
        lines.pop()
    ends, rows = _read_net(lines)
    if not rows:
        raise BadText(len(lines))
    if not text.endswith("\n"):
        raise BadText(len(lines) - 1)
    for at, row in enumerate(rows):
        if max(row) >= len(rows):
            raise BadText(at + 1)
    return Net(ends, rows)


def setting_of(net, text):
    """The setting of the net that has the text."""
    check_net(net)
    _check_text(text)
    line, feed, rest = text.partition("\n")
    setting = _read_setting(net, line)
    if setting is None or feed == "":
        raise BadText(0)
    if rest != "":
        raise BadText(1)
    return setting


def _check_text(text):
    if not isinstance(text, str):
        raise BadText(None)


def _read_net(lines):
    """How many ends, and the rows of targets; raises at the first line that can't stand where it stands."""
    if not lines:
        return 0, []
    ends = _read_ends(lines[0])
    words = _target_words(ends)
    rows = []
    room = MOST_TRACKS
    for at in range(1, len(lines)):
        row = _read_row(lines[at], words, at)
        room -= len(row)
        if room < 0 or at > MOST_POINTS:
            raise BadText(at)
        rows.append(row)
    return ends, rows


def _read_ends(line):
    head, _, word = line.partition(" ")
    counts = _counts_by_word(MOST_ENDS + 1)
    if head != "ends" or word not in counts:
        raise BadText(0)
    return counts[word]


def _read_row(line, words, at):
    head, *parts = line.split(" ")
    if head != "point" or not 1 <= len(parts) <= MOST_EXITS:
        raise BadText(at)
    if not all([part in words for part in parts]):
        raise BadText(at)
    return [words[part] for part in parts]


def _read_setting(net, line):
    """The setting, None if the line is no text of one."""
    head, *parts = line.split(" ")
    if head != "next" or len(parts) != net.points:
        return None
    tables = [_counts_by_word(len(row)) for row in net.exits()]
    if not all([part in table for part, table in zip(parts, tables)]):
        return None
    return [table[part] for part, table in zip(parts, tables)]


def _counts_by_word(bound):
    """A word is looked up, not computed: so there is just one way to write a number, however long a word is."""
    return {str(count): count for count in range(bound)}


def _target_words(ends):
    """Whether a point is there is told by the whole text only, so each one that a net can have stands here."""
    words = _counts_by_word(MOST_POINTS)
    for end in range(ends):
        words[str(-1 - end)] = -1 - end
    return words
