"""Written values, sign by sign: INTEGERS, words, lists and tuples."""

from flippedpoints.errors import UnreadText

DIGITS = "0123456789"
LETTERS = "abcdefghijklmnopqrstuvwxyz"
CLOSING = {"[": "]", "(": ")"}
# No number of a thing has more signs: a minus and thirty digits.
MOST_SIGNS = 31
# What may stand next: a part, which is an INTEGER, a word, a list or a tuple.
PART = 0
# A part, or the closing bracket of what was just opened.
FIRST = 1
# A digit that isn't 0, behind a minus.
MINUS = 2
# A further digit, or what may stand behind a part.
NUMBER = 3
# A further letter, or what may stand behind a part.
WORD = 4
# Only what may stand behind a part.
BEHIND = 5


def written_value(value):
    """The INTEGER, list or tuple, written."""
    if isinstance(value, list):
        return "[" + " ".join([written_value(part) for part in value]) + "]"
    if isinstance(value, tuple):
        return "(" + " ".join([written_value(part) for part in value]) + ")"
    return str(value)


def check_signs(text):
    """Raise UnreadText unless the text is a written value of whatever sort."""
    state = PART
    closing = []
    for at, sign in enumerate(text):
        state = _state_behind(state, sign, closing[-1] if closing else None)
        if state is None:
            raise UnreadText(at)
        if sign in CLOSING:
            closing.append(CLOSING[sign])
        elif closing and sign == closing[-1]:
            closing.pop()
    if closing or state in (PART, FIRST, MINUS):
        raise UnreadText(len(text))


def _state_behind(state, sign, closing):
    """What may stand behind this sign; None if it can't stand there itself."""
    if state == MINUS:
        return NUMBER if sign in DIGITS and sign != "0" else None
    if state == NUMBER and sign in DIGITS:
        return NUMBER
    if state == WORD and sign in LETTERS:
        return WORD
    if state == PART or (state == FIRST and sign != closing):
        return _state_begun(sign)
    if sign == closing:
        return BEHIND
    return PART if sign == " " and closing is not None else None


def _state_begun(sign):
    """What may stand behind the first sign of a part; None if none begins with it."""
    if sign == "-":
        return MINUS
    if sign == "0":
        return BEHIND
    if sign in DIGITS:
        return NUMBER
    if sign in LETTERS:
        return WORD
    return FIRST if sign in CLOSING else None


def built(text):
    """The value that is written; words and numbers of more than thirty digits as strings."""
    for sign in "[(":
        text = text.replace(sign, sign + " ").replace(CLOSING[sign], " " + CLOSING[sign])
    rows = [[]]
    for word in text.split():
        if word in CLOSING:
            rows.append([])
        elif word in ("]", ")"):
            row = rows.pop()
            rows[-1].append(row if word == "]" else tuple(row))
        else:
            rows[-1].append(int(word) if word[-1] in DIGITS and len(word) <= MOST_SIGNS else word)
    return rows[0][0]
