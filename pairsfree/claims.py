"""Claims of pairs, webs and frames, their contraries, and the papers that show them."""

from pairsfree.basics import is_count
from pairsfree.bounds import check_parted, worth
from pairsfree.checks import is_position, is_rising
from pairsfree.engine import bound, first_lot
from pairsfree.errors import InvalidClaim
from pairsfree.frames import Frame
from pairsfree.lots import greatest, is_free, is_lot
from pairsfree.pairs import Pairs
from pairsfree.partings import is_parting
from pairsfree.pins import is_move, moves, stands
from pairsfree.rooms import is_room
from pairsfree.shown import (
    all_paper, is_all_paper, is_none_paper, is_some_paper, is_spared_paper, none_paper, some_paper, spared_paper)
from pairsfree.webs import Web, barrier, barrier_worth, is_matching, matching, matching_number
from pairsfree.which import in_all, in_some

LINES = (("atleast", "below"), ("inall", "spared"), ("insome", "innone"), ("matches", "short"), ("stands", "moves"))
# The words whose papers want a bound of all of the pairs, or of what is left of them.
BOUNDED = ("below", "inall", "spared", "insome", "innone")
MOST_CLAIMED = 8


def words():
    """The list of the tuples of the two words of each line, in their sequence."""
    return list(LINES)


def is_claim(value):
    """Whether any value is a claim."""
    if not isinstance(value, tuple) or len(value) != 3:
        return False
    word, thing, part = value
    if word in ("atleast", "below"):
        return isinstance(thing, Pairs) and is_claimed_count(part)
    if word in ("inall", "spared", "insome", "innone"):
        return isinstance(thing, Pairs) and is_position(thing.many, part)
    if word in ("matches", "short"):
        return isinstance(thing, Web) and is_claimed_count(part)
    return word in ("stands", "moves") and isinstance(thing, Frame) and is_rising(thing.many, part)


def is_true(claim):
    """Whether the claim is true: InvalidClaim."""
    check_claim(claim)
    word, thing, part = claim
    first, _ = line_of(word)
    return is_first_true(first, thing, part) == (word == first)


def contrary(claim):
    """The contrary claim: InvalidClaim."""
    check_claim(claim)
    word, thing, part = claim
    first, second = line_of(word)
    return second if word == first else first, thing, copied_part(part)


def paper_of(claim):
    """A paper of the claim; None if it is not true, or has none: InvalidClaim; TooMany."""
    check_claim(claim)
    word, thing, part = claim
    if word in BOUNDED:
        check_parted(thing)
    return made_paper(word, thing, part) if is_true(claim) else None


def is_paper_of(claim, value):
    """Whether any value is a paper of the claim: InvalidClaim."""
    check_claim(claim)
    word, thing, part = claim
    if word == "atleast":
        return is_lot(thing, value) and is_free(thing, value) and len(value) >= part
    if word == "below":
        return is_bound_below(thing, part, value)
    if word == "inall":
        return is_all_paper(thing, part, value)
    if word == "spared":
        return is_spared_paper(thing, part, value)
    if word == "insome":
        return is_some_paper(thing, part, value)
    if word == "innone":
        return is_none_paper(thing, part, value)
    if word == "matches":
        return is_matching(thing, value) and len(value) >= part
    if word == "short":
        return is_rising(thing.size, value) and barrier_worth(thing, value) < part
    # That a frame stands has no paper.
    return word == "moves" and is_move(thing, part, value)


def check_claim(claim):
    """InvalidClaim unless a claim."""
    if not is_claim(claim):
        raise InvalidClaim(claim)


def is_claimed_count(value):
    """Whether any value is a COUNT to 8."""
    return is_count(value) and value <= MOST_CLAIMED


def line_of(word):
    """The two words of the line that has this one."""
    return [line for line in LINES if word in line][0]


def is_first_true(first, thing, part):
    """Whether the claim with the first word of its line is true."""
    if first == "atleast":
        return greatest(thing) >= part
    if first == "inall":
        return part in in_all(thing)
    if first == "insome":
        return part in in_some(thing)
    if first == "matches":
        return matching_number(thing) >= part
    return stands(thing, part)


def copied_part(part):
    """The part of a claim, a new list or tuple if it is pins."""
    if isinstance(part, list):
        return list(part)
    return tuple(list(part)) if isinstance(part, tuple) else part


def made_paper(word, thing, part):
    """A paper of the claim of this word, which is true; None if it has none."""
    if word == "atleast":
        return first_lot(thing)
    if word == "below":
        return bound(thing)
    if word == "inall":
        return all_paper(thing, part)
    if word == "spared":
        return spared_paper(thing, part)
    if word == "insome":
        return some_paper(thing, part)
    if word == "innone":
        return none_paper(thing, part)
    if word == "matches":
        return matching(thing)
    if word == "short":
        return barrier(thing)
    return moves(thing, part)[0] if word == "moves" else None


def is_bound_below(pairs, count, value):
    """Whether any value is a bound of the pairs of less worth than the count."""
    if not isinstance(value, tuple) or len(value) != 2:
        return False
    room, parting = value
    return is_room(pairs.size, room) and is_parting(pairs, parting) and worth(pairs, room, parting) < count
