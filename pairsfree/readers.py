"""Written forms read: the value that a text is written for, or its first wrong line."""

from pairsfree.checks import is_rising, is_rising_tuple, is_row, is_split
from pairsfree.errors import InvalidText
from pairsfree.frames import MOST_BARS, MOST_POINTS, Frame
from pairsfree.pairs import MOST_PAIRS, Pairs
from pairsfree.rooms import is_room
from pairsfree.webs import MOST_TIES, Web
from pairsfree.wording import MOST_PLACES, MOST_NUMBERS, read_count, read_each, read_number


def read(text):
    """A tuple of the sort and the value that has this written form: InvalidText."""
    if not isinstance(text, str):
        raise InvalidText(0)
    lines = text.split("\n")
    made = None
    for at, line in enumerate(lines[:-1]):
        made = with_line(made, line.split(" "))
        if made is None:
            raise InvalidText(at + 1)
    value = None if made is None else value_of(made)
    # What stands behind the last line feed is a wrong line, or else the place of the one that lacks.
    if lines[-1] != "" or value is None:
        raise InvalidText(len(lines))
    sort, _ = made
    return sort, value


def with_line(made, words):
    """The sort and what is read of it by one line more, None ahead of the first; None if no form has it there."""
    if made is None:
        sort, state = words[0], begun(words[0], words[1:])
    else:
        sort, state = made[0], gone_on(made, words[0], words[1:])
    return None if state is None else (sort, state)


def begun(sort, words):
    """What is read of the sort by its first line, with these words behind its own; None if no form has it."""
    if sort not in BEGINNINGS:
        return None
    beginning = BEGINNINGS[sort]
    return beginning(words)


def gone_on(made, word, words):
    """What is read by one line more, of the word and these words; None if no form has it there."""
    sort, state = made
    if sort not in LATER_LINES:
        return None
    later_line = LATER_LINES[sort]
    return later_line(state, word, words)


def value_of(made):
    """The value that was read, None if lines lack."""
    sort, state = made
    if sort not in ENDINGS:
        return state
    ending = ENDINGS[sort]
    return ending(state)


def numbers_to(most, words):
    """The Ratios of the words, at most so many; None if they are none."""
    return read_each(read_number, words) if len(words) <= most else None


def numbers_begun(words):
    """The numbers of the one line."""
    return numbers_to(MOST_NUMBERS, words)


def row_begun(words):
    """The row of the one line."""
    return numbers_to(MOST_PLACES, words)


def lot_begun(words):
    """The lot of the one line."""
    lot = read_each(read_count, words)
    return lot if is_rising(MOST_PLACES, lot) else None


def parting_begun(words):
    """No parts yet."""
    return [] if not words else None


def sized_begun(words):
    """The size, and no rows or ties yet."""
    sizes = read_each(read_count, words)
    return (sizes[0], []) if is_rising(MOST_PLACES + 1, sizes) and len(sizes) == 1 else None


def frame_begun(words):
    """No points yet, and no bars."""
    return ([], []) if not words else None


def later_part(parts, word, words):
    """The parts with one more, which begins with the least position that is in none."""
    part = read_each(read_count, words)
    left = [place for place in range(MOST_PLACES) if not any([place in other for other in parts])]
    if word != "part" or not part or not is_rising(MOST_PLACES, part) or part[:1] != left[:1]:
        return None
    return parts + [part] if all([place in left for place in part]) else None


def later_room_row(state, word, words):
    """The size with one row more, by which the rows stay in steps."""
    size, rows = state
    more = rows + [numbers_to(size, words)]
    return (size, more) if word == "row" and is_room(size, more) else None


def later_pair_row(state, word, words):
    """The size with one row more: the first ones and the second ones of the pairs stand in turn."""
    size, rows = state
    wanted = "second" if len(rows) % 2 == 1 else "first"
    row = numbers_to(size, words)
    if word != wanted or len(rows) == 2 * MOST_PAIRS or not is_row(size, row):
        return None
    return size, rows + [row]


def later_tie(state, word, words):
    """The size with one tie more."""
    size, ties = state
    tie = tuple_of(read_count, words)
    if word != "tie" or len(ties) == MOST_TIES or not is_rising_tuple(size, 2, tie):
        return None
    return size, ties + [tie]


def later_point_or_bar(state, word, words):
    """The points and bars with one of them more, no point behind a bar."""
    points, bars = state
    point = tuple_of(read_number, words)
    if word == "point" and not bars and len(points) < MOST_POINTS and is_row(2, point):
        return points + [point], bars
    bar = tuple_of(read_count, words)
    if word == "bar" and len(bars) < MOST_BARS and is_rising_tuple(len(points), 2, bar):
        return points, bars + [bar]
    return None


def tuple_of(reader, words):
    """What the reader finds in the words, as a tuple; None if it finds nothing in one of them."""
    found = read_each(reader, words)
    return None if found is None else tuple(found)


def parting_ended(parts):
    """The parting; None while a position lacks that is less than one of a part."""
    many = sum([len(part) for part in parts])
    return parts if is_split(many, parts) else None


def pairs_ended(state):
    """The Pairs; None while the second row of a pair lacks."""
    size, rows = state
    if len(rows) % 2 == 1:
        return None
    return Pairs(size, [(rows[at], rows[at + 1]) for at in range(0, len(rows), 2)])


def web_ended(state):
    """The Web."""
    size, ties = state
    return Web(size, ties)


def frame_ended(state):
    """The Frame."""
    points, bars = state
    return Frame(points, bars)


BEGINNINGS = {
    "numbers": numbers_begun, "row": row_begun, "lot": lot_begun, "parting": parting_begun,
    "room": sized_begun, "pairs": sized_begun, "web": sized_begun, "frame": frame_begun}
LATER_LINES = {
    "parting": later_part, "room": later_room_row, "pairs": later_pair_row, "web": later_tie,
    "frame": later_point_or_bar}
ENDINGS = {"parting": parting_ended, "pairs": pairs_ended, "web": web_ended, "frame": frame_ended}
