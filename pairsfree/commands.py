"""The commands of a desk by their words alone: which strings are commands, and what their words are read for."""

from pairsfree.frames import MOST_POINTS
from pairsfree.pairs import MOST_PAIRS
from pairsfree.threes import MOST_THREES
from pairsfree.webs import MOST_TIES
from pairsfree.wording import DIGITS, MOST_NUMBERS, MOST_PLACES, read_count, read_each, read_number

LETTERS = "abcdefghijklmnopqrstuvwxyz"
MOST_SIGNS = 8
# Behind the word of a deed. FRESH is the LABEL of a claim that is noted, WORD its own word.
DEEDS = {
    "pairs": ("NEW", "COUNT", "PAIRS"), "web": ("NEW", "COUNT", "TIES"), "frame": ("NEW", "POINTS", "TIES"),
    "room": ("NEW", "COUNT", "ROWS"), "put": ("NEW", "ONE", "ROW", "ROW"), "without": ("NEW", "ONE", "COUNT"),
    "behind": ("NEW", "ONE", "ROOM"), "ofweb": ("NEW", "WEB"), "offrame": ("NEW", "FRAME"),
    "threes": ("NEW", "COUNT", "THREES"), "houses": ("NEW", "ROWS", "ROWS"), "common": ("NEW", "ONE"),
    "joined": ("NEW", "ROOM", "OTHER"), "shared": ("NEW", "ROOM", "OTHER"), "pair": ("ONE", "COUNT", "ROW", "ROW"),
    "tie": ("WEB", "COUNT", "COUNT"), "cut": ("WEB", "COUNT"), "drop": ("NAME",), "forget": ("LABEL",)}
CLAIMS = {
    "atleast": ("ONE", "COUNT"), "below": ("ONE", "COUNT"), "inall": ("ONE", "COUNT"), "spared": ("ONE", "COUNT"),
    "insome": ("ONE", "COUNT"), "innone": ("ONE", "COUNT"), "matches": ("WEB", "COUNT"), "short": ("WEB", "COUNT"),
    "stands": ("FRAME", "LOT"), "moves": ("FRAME", "LOT")}
OTHERS = {
    "undo": (), "redo": (), "state": ("LABEL",), "states": (), "claimed": ("LABEL",), "names": (), "show": ("NAME",),
    "many": ("NAME",), "greatest": ("ONE",), "lot": ("ONE",), "free": ("ONE", "LOT"), "rank": ("ONE", "LOT"),
    "all": ("ONE",), "some": ("ONE",), "none": ("ONE",), "worth": ("ONE", "ROOM", "PARTING"), "matching": ("WEB",),
    "left": ("WEB",), "barrier": ("WEB", "LOT"), "fewest": ("FRAME",), "holds": ("ROOM", "ROW"),
    "same": ("NAME", "OTHER")}
NAMED = ("NEW", "ONE", "WEB", "FRAME", "ROOM", "OTHER", "NAME", "LABEL", "FRESH")


def is_name(value):
    """Whether any value is a name: one to eight small letters and digits, the first one a letter."""
    if not isinstance(value, str) or value == "" or len(value) > MOST_SIGNS:
        return False
    return value[0] in LETTERS and all([sign in LETTERS or sign in DIGITS for sign in value])


def is_command(value):
    """Whether any value is a string that is a command by its words alone."""
    return parts_of(value) is not None


def is_deed(value):
    """Whether any value is a string that is a deed by its words alone."""
    parts = parts_of(value)
    return parts is not None and is_deed_word(parts[0])


def is_deed_word(word):
    """Whether the word of a command is that of a deed."""
    return word in DEEDS or word == "claim"


def parts_of(value):
    """A tuple of a command's word, the kinds of what stands behind it, and these as read; None if it is none."""
    if not isinstance(value, str):
        return None
    words = value.split(" ")
    kinds = kinds_behind(words)
    if kinds is None or len(kinds) != len(words) - 1:
        return None
    parts = [read_part(kind, word) for kind, word in zip(kinds, words[1:])]
    return None if any([part is None for part in parts]) else (words[0], kinds, parts)


def kinds_behind(words):
    """The kinds of what stands behind the word of the command; None if it is no word of one."""
    word = words[0]
    if word in DEEDS:
        return DEEDS[word]
    if word in OTHERS:
        return OTHERS[word]
    if word == "claim" and len(words) > 2 and words[2] in CLAIMS:
        return ("FRESH", "WORD") + CLAIMS[words[2]]
    return None


def read_part(kind, word):
    """What the word is read for, as one of this kind; None if it is none."""
    if kind == "WORD":
        return word
    if kind in NAMED:
        return word if is_name(word) else None
    reader = READERS[kind]
    return reader(word)


def read_small_count(word):
    """The COUNT of at most two digits; None if it is none."""
    count = read_count(word)
    return count if count is not None and count < 100 else None


def read_small_number(word):
    """The Ratio of at most six digits above and below the stroke; None if it is none."""
    number = read_number(word)
    if number is None or abs(number.top) >= 1000000 or number.bottom >= 1000000:
        return None
    return number


def read_list(reader, word, sign, most, none):
    """The list of what the reader finds between the signs, at most so many; [] for the word of none; None else."""
    if word == none:
        return []
    words = word.split(sign)
    return read_each(reader, words) if len(words) <= most else None


def read_tuple(reader, word, many):
    """The tuple of what the reader finds in so many words with `:` between; None else."""
    words = word.split(":")
    found = read_each(reader, words) if len(words) == many else None
    return None if found is None else tuple(found)


def read_row(word):
    """The row of 1 to 8 numbers, or of none."""
    return read_list(read_small_number, word, ",", MOST_PLACES, "-")


def read_lot(word):
    """The list of 1 to 8 counts, or of none."""
    return read_list(read_small_count, word, ",", MOST_PLACES, "-")


def read_rows(word):
    """The list of 1 to 40 rows, or of none."""
    return read_list(read_row, word, ";", MOST_NUMBERS, "none")


def read_row_pair(word):
    """The tuple of two rows."""
    return read_tuple(read_row, word, 2)


def read_pairs(word):
    """The list of 1 to 8 pairs, or of none."""
    return read_list(read_row_pair, word, ";", MOST_PAIRS, "none")


def read_tie(word):
    """The tuple of two counts."""
    return read_tuple(read_small_count, word, 2)


def read_ties(word):
    """The list of 1 to 8 ties, or of none."""
    return read_list(read_tie, word, ";", MOST_TIES, "none")


def read_point(word):
    """The tuple of two numbers."""
    return read_tuple(read_small_number, word, 2)


def read_points(word):
    """The list of 1 to 5 points, or of none."""
    return read_list(read_point, word, ";", MOST_POINTS, "none")


def read_three(word):
    """The tuple of three counts."""
    return read_tuple(read_small_count, word, 3)


def read_threes(word):
    """The list of 1 to 8 threes, or of none."""
    return read_list(read_three, word, ";", MOST_THREES, "none")


def read_parting(word):
    """The list of 1 to 8 lots, or of none."""
    return read_list(read_lot, word, ";", MOST_PLACES, "none")


READERS = {
    "COUNT": read_small_count, "ROW": read_row, "LOT": read_lot, "ROWS": read_rows, "PAIRS": read_pairs,
    "TIES": read_ties, "POINTS": read_points, "THREES": read_threes, "PARTING": read_parting}
