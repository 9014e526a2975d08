"""What the deeds of a desk make of the words that they are told and of the things that are kept."""

from pairsfree.checks import check_place, check_size
from pairsfree.common import behind_room, common_room
from pairsfree.frames import Frame, frame_pairs
from pairsfree.houses import house_pairs
from pairsfree.pairs import Pairs
from pairsfree.rooms import joined, shared
from pairsfree.steps import steps
from pairsfree.threes import three_pairs
from pairsfree.webs import Web, web_pairs
from pairsfree.which import put_in, without
from pairsfree.wording import MOST_PLACES


def is_maker(word):
    """Whether the deed of the word makes a thing that is kept under a new name."""
    return word in MAKERS


def made(word, parts):
    """The thing that the deed makes of these parts: the errors of the function or class that makes it."""
    maker = MAKERS[word]
    return maker(*parts)


def is_changer(word):
    """Whether the deed of the word makes another thing of one that is kept, under its name."""
    return word in CHANGERS


def changed(word, parts):
    """The other thing that the deed makes of these parts, the first one the thing that was kept: its errors."""
    changer = CHANGERS[word]
    return changer(*parts)


def made_pairs(size, rows):
    """The Pairs: InvalidSize; InvalidRows."""
    return Pairs(size, rows)


def made_web(size, ties):
    """The Web: InvalidSize; InvalidTies."""
    return Web(size, ties)


def made_frame(points, bars):
    """The Frame: InvalidPoints; InvalidBars."""
    return Frame(points, bars)


def made_room(size, rows):
    """The size, which is to 8, with the told steps of the rows: InvalidSize; InvalidRows."""
    check_size(size, MOST_PLACES)
    return size, steps(size, rows)


def pairs_put(pairs, first, second):
    """The Pairs with the pair of both rows put in: InvalidPair; TooMany."""
    return put_in(pairs, (first, second))


def pairs_without(pairs, place):
    """The Pairs without the position: InvalidPlace."""
    return without(pairs, place)


def pairs_behind(pairs, sized):
    """The Pairs behind the room: InvalidRoom."""
    return behind_room(pairs, sized[1])


def pairs_of_web(web):
    """The Pairs of the web."""
    return web_pairs(web)


def pairs_of_frame(frame):
    """The Pairs of the frame."""
    return frame_pairs(frame)


def pairs_of_threes(size, threes):
    """The Pairs of the threes: InvalidSize; InvalidThrees."""
    return three_pairs(size, threes)


def pairs_of_houses(first, second):
    """The Pairs of two houses: InvalidRows."""
    return house_pairs(first, second)


def sized_common(pairs):
    """The size of the pairs with the room that they share."""
    return pairs.size, common_room(pairs)


def sized_joined(sized, other):
    """The size of the first room with both joined: InvalidRoom."""
    size, room = sized
    return size, joined(size, room, other[1])


def sized_shared(sized, other):
    """The size of the first room with what both share: InvalidRoom."""
    size, room = sized
    return size, shared(size, room, other[1])


def other_pair(pairs, place, first, second):
    """The Pairs with the pair of both rows at the position: InvalidPlace; InvalidRows."""
    check_place(pairs.many, place)
    rows = pairs.told()
    rows[place] = (first, second)
    return Pairs(pairs.size, rows)


def web_tied(web, i, j):
    """The Web with one tie more, the last: InvalidTies."""
    return Web(web.size, web.ties() + [(i, j)])


def web_cut(web, place):
    """The Web without the tie at this position: InvalidPlace."""
    check_place(web.many, place)
    return Web(web.size, [tie for at, tie in enumerate(web.ties()) if at != place])


MAKERS = {
    "pairs": made_pairs, "web": made_web, "frame": made_frame, "room": made_room, "put": pairs_put,
    "without": pairs_without, "behind": pairs_behind, "ofweb": pairs_of_web, "offrame": pairs_of_frame,
    "threes": pairs_of_threes, "houses": pairs_of_houses, "common": sized_common, "joined": sized_joined,
    "shared": sized_shared}
CHANGERS = {"pair": other_pair, "tie": web_tied, "cut": web_cut}
