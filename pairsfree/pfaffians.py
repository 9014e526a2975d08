"""Pfaffians of turned tables, tables at places, and the shares that lots have there."""

from pairsfree.checks import check_lot, check_places
from pairsfree.errors import InvalidPlaces
from pairsfree.lots import free_lots
from pairsfree.pairs import check_pairs
from pairsfree.ratios import Ratio, ratio_row
from pairsfree.turned import check_table


def pfaffian(table):
    """The Pfaffian of the turned table, a Ratio: InvalidTable."""
    check_table(table)
    return pfaffian_of([ratio_row(row) for row in table])


def at_places(table, places):
    """What is left of the turned table of these rows and these places: InvalidTable; InvalidPlaces."""
    check_table(table)
    check_places(len(table), places)
    return rows_at([table[place] for place in places], places)


def lot_share(pairs, lot, places):
    """The determinant of the lot's rows at the places, a Ratio: InvalidPairs; InvalidLot; InvalidPlaces."""
    check_pairs(pairs)
    check_lot(pairs.many, lot)
    check_places(pairs.size, places)
    if len(places) != 2 * len(lot):
        raise InvalidPlaces(places)
    return determinant(rows_at(pairs.lot_rows(lot), places))


def shares(pairs, places):
    """The sorted list of the lots with their shares at the places that are not 0: InvalidPairs; InvalidPlaces."""
    check_pairs(pairs)
    check_places(pairs.size, places)
    if len(places) % 2 == 1:
        raise InvalidPlaces(places)
    # A lot that is not free has no share other than 0 anywhere.
    found = [(lot, lot_share(pairs, lot, places)) for lot in free_lots(pairs, len(places) // 2)]
    return [(lot, share) for lot, share in found if share.sign != 0]


def rows_at(rows, places):
    """The rows at these places alone, of Ratios."""
    return [ratio_row([row[place] for place in places]) for row in rows]


def pfaffian_of(table):
    """The Pfaffian of a turned table of Ratios."""
    size = len(table)
    if size == 0:
        return Ratio(1)
    if size % 2 == 1:
        return Ratio(0)
    # The place 1 counts with its own sign, the place 2 with the other one, and so on.
    return Ratio.total([signed(table[0][j], j - 1) * pfaffian_of(left_of(table, j)) for j in range(1, size)])


def left_of(table, place):
    """The table without the rows and the places 0 and this one."""
    left = [at for at in range(1, len(table)) if at != place]
    return rows_at([table[at] for at in left], left)


def determinant(rows):
    """The determinant of as many rows of Ratios as their size is."""
    if not rows:
        return Ratio(1)
    heads = [at for at, row in enumerate(rows) if row[0].sign != 0]
    if not heads:
        return Ratio(0)
    head = rows[heads[0]]
    others = [cut_row(row, head) for at, row in enumerate(rows) if at != heads[0]]
    return head[0] * signed(determinant(others), heads[0])


def cut_row(row, head):
    """The row with a multiple of the head added, so that it has 0 at its first place, and without this place."""
    times = row[0].over(head[0])
    return [number - times * taken for number, taken in zip(row[1:], head[1:])]


def signed(number, at):
    """The number, with the other sign where the place is odd."""
    return -number if at % 2 == 1 else number
