"""Commands of a desk: their words, and what their parts tell."""

from flippedpoints.errors import BadText
from flippedpoints.readers import net_of
from flippedpoints.signs import DIGITS, LETTERS

MOST_NAME_SIGNS = 8
MOST_DIGITS = 20
MOST_LISTED = 24
# For each word the kinds of the parts behind it.
DEEDS = {
    "net": ("name", "lines"),
    "set": ("name", "list"),
    "send": ("name", "list"),
    "lay": ("name", "count", "target"),
    "take": ("name", "count", "count"),
    "swap": ("name", "count", "count", "count"),
    "copy": ("name", "name"),
    "drop": ("name",),
    "forget": ("name",),
}
# For each word of a claim the kinds of the parts behind it.
CLAIMS = {
    "arrives": ("name", "count", "count"),
    "misses": ("name", "count", "count"),
    "ends": ("name", "count"),
    "never": ("name", "count"),
    "least": ("name", "list", "list"),
    "more": ("name", "list", "list"),
    "alike": ("name", "list", "name", "list"),
    "parted": ("name", "list", "name", "list"),
}
OTHERS = {
    "undo": (),
    "redo": (),
    "state": ("name",),
    "states": (),
    "claimed": ("name",),
    "names": (),
    "show": ("name",),
    "setting": ("name",),
    "come": ("name",),
    "same": ("name", "name"),
    "lost": ("name",),
    "flow": ("name", "list"),
    "long": ("name", "count"),
    "time": ("name", "count", "count", "count"),
    "share": ("name", "count", "count"),
    "trees": ("name",),
    "period": ("name", "count"),
}


def is_name(value):
    """Whether any value is a name."""
    if not isinstance(value, str) or not 1 <= len(value) <= MOST_NAME_SIGNS:
        return False
    return value[0] in LETTERS and all([sign in LETTERS or sign in DIGITS for sign in value])


def is_command(value):
    """Whether any value is a command by its words alone."""
    return parts_of(value) is not None


def is_deed(value):
    """Whether any value is a deed by its words alone."""
    parts = parts_of(value)
    return parts is not None and is_deed_word(parts[0])


def is_deed_word(word):
    """Whether commands that begin with the word are deeds."""
    return word == "claim" or word in DEEDS


def parts_of(value):
    """The words of a command, names, numbers, lists, the Net of LINES, in their sequence; None for no command."""
    if not isinstance(value, str):
        return None
    texts = value.split(" ", 2) if value.startswith("net ") else value.split(" ")
    kinds = _kinds_of(texts)
    if kinds is None or len(kinds) != len(texts):
        return None
    parts = [_part(kind, text) for kind, text in zip(kinds, texts)]
    return None if any([part is None for part in parts]) else parts


def _kinds_of(texts):
    """The kinds of the parts of a command that begins with these; None if none does."""
    word = texts[0]
    if word == "claim" and len(texts) > 2 and texts[2] in CLAIMS:
        return ("word", "name", "word") + CLAIMS[texts[2]]
    if word in DEEDS:
        return ("word",) + DEEDS[word]
    return ("word",) + OTHERS[word] if word in OTHERS else None


def _part(kind, text):
    """What a part of this kind tells; None if the text is no such part."""
    if kind == "name":
        return text if is_name(text) else None
    if kind == "count":
        return _count_of(text)
    if kind == "target":
        return _target_of(text)
    if kind == "list":
        return _list_of(text)
    return _net_of(text) if kind == "lines" else text


def _count_of(text):
    if not 1 <= len(text) <= MOST_DIGITS or not all([sign in DIGITS for sign in text]):
        return None
    return int(text) if text == "0" or text[0] != "0" else None


def _target_of(text):
    if not text.startswith("-"):
        return _count_of(text)
    count = _count_of(text[1:])
    return -count if count is not None and count > 0 else None


def _list_of(text):
    counts = [_count_of(part) for part in text.split(",")]
    return None if len(counts) > MOST_LISTED or any([count is None for count in counts]) else counts


def _net_of(text):
    # Lines stand behind semicolons here, never behind line feeds.
    if "\n" in text:
        return None
    try:
        return net_of(text.replace("; ", "\n") + "\n")
    except BadText:
        return None


def lines_of(text):
    """The LINES of a text of lines."""
    return "; ".join(text.splitlines())


def list_text(numbers):
    """The LIST of these numbers; `-` for none."""
    return ",".join([str(number) for number in numbers]) or "-"
