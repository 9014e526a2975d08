"""What the commands that are no deeds tell of the things that are kept."""

from pairsfree.bounds import worth
from pairsfree.engine import first_lot
from pairsfree.frames import Frame
from pairsfree.lots import greatest, is_free, lot_rank
from pairsfree.pairs import Pairs
from pairsfree.pins import fewest_pins
from pairsfree.rooms import is_held
from pairsfree.webs import Web, barrier_worth, left_places, matching_number
from pairsfree.which import in_all, in_none, in_some
from pairsfree.wording import list_word, row_word


def answer_of(word, parts):
    """The answer to the command of the word, a string: the errors of the function that tells it."""
    teller = TELLERS[word]
    return teller(*parts)


def yes_or_no(is_so):
    """The answer to whether something is so."""
    return "yes" if is_so else "no"


def tell_show(thing):
    """The thing in words: its size first, but for a frame."""
    if isinstance(thing, Pairs):
        rows = [(row_word(first), row_word(second)) for first, second in thing.told()]
        return f"{thing.size} {twos_word(rows)}"
    if isinstance(thing, Web):
        return f"{thing.size} {twos_word(thing.ties())}"
    if isinstance(thing, Frame):
        return f"{twos_word(thing.points())} {twos_word(thing.bars())}"
    size, room = thing
    return f"{size} {list_word([row_word(row) for row in room])}"


def twos_word(twos):
    """The word of a list of two things each, with `:` between."""
    return list_word([f"{first}:{second}" for first, second in twos])


def tell_many(thing):
    """How many pairs, ties or points there are; of a room its rank."""
    return str(len(thing[1])) if isinstance(thing, tuple) else str(thing.many)


def tell_greatest(pairs):
    """The greatest number."""
    return str(greatest(pairs))


def tell_lot(pairs):
    """The first greatest lot."""
    return row_word(first_lot(pairs))


def tell_free(pairs, lot):
    """Whether the lot is free: InvalidLot."""
    return yes_or_no(is_free(pairs, lot))


def tell_rank(pairs, lot):
    """The rank of the lot's rows: InvalidLot."""
    return str(lot_rank(pairs, lot))


def tell_all(pairs):
    """The positions that are in all greatest lots."""
    return row_word(in_all(pairs))


def tell_some(pairs):
    """The positions that are in some greatest lot."""
    return row_word(in_some(pairs))


def tell_none(pairs):
    """The positions that are in no greatest lot."""
    return row_word(in_none(pairs))


def tell_worth(pairs, sized, parting):
    """The worth of the room with the parting: InvalidRoom; InvalidParting."""
    return str(worth(pairs, sized[1], parting))


def tell_matching(web):
    """The matching number."""
    return str(matching_number(web))


def tell_left(web):
    """The places that some greatest matching leaves out."""
    return row_word(left_places(web))


def tell_barrier(web, places):
    """The barrier worth of the places: InvalidPlaces."""
    return str(barrier_worth(web, places))


def tell_fewest(frame):
    """The number of the fewest pins."""
    return str(fewest_pins(frame))


def tell_holds(sized, row):
    """Whether the room holds the row: InvalidRow."""
    size, room = sized
    return yes_or_no(is_held(size, room, row))


def tell_same(thing, other):
    """Whether the two things of one kind are equal."""
    return yes_or_no(thing == other)


TELLERS = {
    "show": tell_show, "many": tell_many, "greatest": tell_greatest, "lot": tell_lot, "free": tell_free,
    "rank": tell_rank, "all": tell_all, "some": tell_some, "none": tell_none, "worth": tell_worth,
    "matching": tell_matching, "left": tell_left, "barrier": tell_barrier, "fewest": tell_fewest, "holds": tell_holds,
    "same": tell_same}
