"""Webs of places and ties: matchings, pieces and barriers."""

from pairsfree.checks import check_places, check_size, is_list, is_rising, is_rising_tuple
from pairsfree.errors import InvalidTies, InvalidWeb
from pairsfree.lots import greatest, greatest_lots
from pairsfree.pairs import Pairs
from pairsfree.steps import idle_row

MOST_PLACES = 8
MOST_TIES = 8


class Web:
    """From 0 to 8 places and from 0 to 8 ties, each of two of them, in sequence; they never change."""

    def __init__(self, size, ties):
        check_size(size, MOST_PLACES)
        if not is_list(ties) or len(ties) > MOST_TIES or not all([is_rising_tuple(size, 2, tie) for tie in ties]):
            raise InvalidTies(ties)
        self._size = size
        self._ties = [(i, j) for i, j in ties]

    @property
    def size(self):
        """How many places there are."""
        return self._size

    @property
    def many(self):
        """How many ties there are."""
        return len(self._ties)

    def ties(self):
        """The list of all ties, tuples of two places."""
        return list(self._ties)

    def __eq__(self, other):
        return isinstance(other, Web) and self._size == other._size and self._ties == other._ties

    def __repr__(self):
        return f"Web({self._size}, {self._ties!r})"


def web_pairs(web):
    """The Pairs of the web, one pair for each tie: InvalidWeb."""
    check_web(web)
    return Pairs(web.size, [(idle_row(web.size, i), idle_row(web.size, j)) for i, j in web.ties()])


def is_matching(web, value):
    """Whether any value is a rising list of positions of ties, no two of which share a place: InvalidWeb."""
    check_web(web)
    if not is_rising(web.many, value):
        return False
    return len(set(tied_places(web, value))) == 2 * len(value)


def matching_number(web):
    """How many ties the greatest matchings have, a COUNT: InvalidWeb."""
    return greatest(web_pairs(web))


def matching(web):
    """A greatest matching, a list of positions of ties: InvalidWeb."""
    return greatest_lots(web_pairs(web))[0]


def pieces(web, places):
    """The sorted list of the sorted pieces if these places are left out: InvalidWeb; InvalidPlaces."""
    check_web(web)
    check_places(web.size, places)
    found = [[place] for place in range(web.size) if place not in places]
    for i, j in web.ties():
        if i not in places and j not in places:
            found = with_one_piece(found, i, j)
    return sorted([sorted(piece) for piece in found])


def barrier_worth(web, places):
    """The barrier worth of the places, a COUNT: InvalidWeb; InvalidPlaces."""
    odd = [piece for piece in pieces(web, places) if len(piece) % 2 == 1]
    return (web.size + len(places) - len(odd)) // 2


def barrier(web):
    """A barrier, a rising list of places: InvalidWeb."""
    left = left_places(web)
    tied = [place for tie in web.ties() for place in tie if tie[0] in left or tie[1] in left]
    return [place for place in range(web.size) if place in tied and place not in left]


def is_barrier(web, value):
    """Whether any value is a barrier, a rising list of places: InvalidWeb."""
    check_web(web)
    return is_rising(web.size, value) and barrier_worth(web, value) == matching_number(web)


def left_places(web):
    """The rising list of the places that some greatest matching leaves out: InvalidWeb."""
    lots = greatest_lots(web_pairs(web))
    return [place for place in range(web.size) if any([place not in tied_places(web, lot) for lot in lots])]


def check_web(web):
    """InvalidWeb unless a Web."""
    if not isinstance(web, Web):
        raise InvalidWeb(web)


def tied_places(web, lot):
    """The places of the ties at these positions, as often as a tie has them."""
    ties = web.ties()
    return [place for at in lot for place in ties[at]]


def with_one_piece(found, i, j):
    """The pieces, those of these two places made one."""
    whole = [place for piece in found if i in piece or j in piece for place in piece]
    return [piece for piece in found if i not in piece and j not in piece] + [whole]
