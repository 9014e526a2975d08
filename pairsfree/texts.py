"""The sorts of values that are written as texts, and their written forms."""

from pairsfree.basics import is_count
from pairsfree.checks import is_list, is_rising, is_row, is_split
from pairsfree.errors import InvalidSort, InvalidValue
from pairsfree.frames import Frame
from pairsfree.pairs import Pairs
from pairsfree.partings import told_parts
from pairsfree.ratios import ratio_row
from pairsfree.rooms import is_room
from pairsfree.webs import Web
from pairsfree.wording import MOST_PLACES, MOST_NUMBERS

SORTS = ("numbers", "row", "lot", "parting", "room", "pairs", "web", "frame")


def sorts():
    """The list of the words of the sorts, in their sequence."""
    return list(SORTS)


def is_of_sort(sort, value):
    """Whether any value is one of the sort: InvalidSort."""
    check_sort(sort)
    judge = JUDGES[sort]
    return judge(value)


def written(sort, value):
    """The written form of a value of the sort, a string of lines: InvalidSort; InvalidValue."""
    if not is_of_sort(sort, value):
        raise InvalidValue(value)
    writer = WRITERS[sort]
    return writer(value)


def check_sort(sort):
    """InvalidSort unless a word of a sort."""
    if sort not in SORTS:
        raise InvalidSort(sort)


def are_numbers(value):
    """Whether any value is a list of 0 to 40 NUMBERS."""
    return is_list(value) and len(value) <= MOST_NUMBERS and is_row(len(value), value)


def is_short_row(value):
    """Whether any value is a list of 0 to 8 NUMBERS."""
    return are_numbers(value) and len(value) <= MOST_PLACES


def is_short_lot(value):
    """Whether any value is a rising list of unlike COUNTS to 7."""
    return is_rising(MOST_PLACES, value)


def is_short_parting(value):
    """Whether any value is a parting of 0 to 8 positions."""
    return any([is_split(many, value) for many in range(MOST_PLACES + 1)])


def is_sized_room(value):
    """Whether any value is a tuple of a size to 8 and a room of this size."""
    if not isinstance(value, tuple) or len(value) != 2:
        return False
    size, room = value
    return is_count(size) and size <= MOST_PLACES and is_room(size, room)


def are_pairs(value):
    """Whether any value is a Pairs."""
    return isinstance(value, Pairs)


def is_web(value):
    """Whether any value is a Web."""
    return isinstance(value, Web)


def is_frame(value):
    """Whether any value is a Frame."""
    return isinstance(value, Frame)


def line(word, parts):
    """The line of the word and the parts behind it."""
    return " ".join([word] + [str(part) for part in parts]) + "\n"


def row_line(word, row):
    """The line of the word and the NUMBERS of the row."""
    return line(word, ratio_row(row))


def numbers_text(value):
    """The written form of numbers."""
    return row_line("numbers", value)


def row_text(value):
    """The written form of a row."""
    return row_line("row", value)


def lot_text(value):
    """The written form of a lot."""
    return line("lot", value)


def parting_text(value):
    """The written form of a parting, as it is told."""
    return line("parting", []) + "".join([line("part", part) for part in told_parts(value)])


def room_text(value):
    """The written form of a size with a room."""
    size, room = value
    return line("room", [size]) + "".join([row_text(row) for row in room])


def pairs_text(value):
    """The written form of a Pairs."""
    lines = [row_line("first", first) + row_line("second", second) for first, second in value.told()]
    return line("pairs", [value.size]) + "".join(lines)


def web_text(value):
    """The written form of a Web."""
    return line("web", [value.size]) + "".join([line("tie", tie) for tie in value.ties()])


def frame_text(value):
    """The written form of a Frame."""
    points = [line("point", point) for point in value.points()]
    return line("frame", []) + "".join(points) + "".join([line("bar", bar) for bar in value.bars()])


JUDGES = {
    "numbers": are_numbers, "row": is_short_row, "lot": is_short_lot, "parting": is_short_parting,
    "room": is_sized_room, "pairs": are_pairs, "web": is_web, "frame": is_frame}
WRITERS = {
    "numbers": numbers_text, "row": row_text, "lot": lot_text, "parting": parting_text,
    "room": room_text, "pairs": pairs_text, "web": web_text, "frame": frame_text}
