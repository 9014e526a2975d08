"""Partings of positions into parts."""

from pairsfree.checks import check_many, check_parting, is_split
from pairsfree.pairs import check_pairs

MOST_PLACES = 6


def is_parting(pairs, value):
    """Whether any value is a parting of the pairs, in whatever sequence: InvalidPairs."""
    check_pairs(pairs)
    return is_split(pairs.many, value)


def told_parting(pairs, parting):
    """The same parting with rising parts, sorted: InvalidPairs; InvalidParting."""
    check_pairs(pairs)
    check_parting(pairs.many, parting)
    return told_parts(parting)


def partings(many):
    """The sorted list of all told partings of the positions from 0 to many less 1: InvalidMany."""
    check_many(many, MOST_PLACES)
    return sorted(all_partings(many))


def is_finer(pairs, parting, other):
    """Whether the first parting is finer than the other one: InvalidPairs; InvalidParting."""
    check_pairs(pairs)
    check_parting(pairs.many, parting)
    check_parting(pairs.many, other)
    return all([lies_in_one(part, other) for part in parting])


def told_parts(parting):
    """The parts of the parting, each rising, sorted."""
    return sorted([sorted(part) for part in parting])


def all_partings(many):
    """The list of all told partings of so many positions, however many."""
    found = [[]]
    for place in range(many):
        found = [wider for parting in found for wider in with_place(parting, place)]
    return found


def lies_in_one(part, parting):
    """Whether all positions of the part are in one part of the parting."""
    return any([all([place in whole for place in part]) for whole in parting])


def with_place(parting, place):
    """The told partings that come of a told one by a greater position: put to each part, or a part by itself."""
    alone = [list(part) for part in parting] + [[place]]
    return [put_to_part(parting, at, place) for at in range(len(parting))] + [alone]


def put_to_part(parting, at, place):
    """The parting, of new lists, with the position put to the part that stands at the first number."""
    parts = [list(part) for part in parting]
    parts[at].append(place)
    return parts
