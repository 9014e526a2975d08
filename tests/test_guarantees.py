"""The guarantees [4], as far as rows, rooms, lots and partings tell them."""

import itertools
import random
import unittest

from pairsfree.lots import greatest, greatest_lots
from pairsfree.pairs import Pairs
from pairsfree.partings import partings
from pairsfree.rooms import ahead, behind, is_held, joined, shared
from pairsfree.steps import rank, steps
from tests.helper import random_pairs, random_room, random_rows


def behind_room(pairs, room):
    return Pairs(pairs.size - len(room), [tuple(behind(pairs.size, room, pair)) for pair in pairs.told()])


def common_room(pairs):
    """What the rooms of the rows of all greatest free lots share."""
    rooms = [steps(pairs.size, pairs.lot_rows(lot)) for lot in greatest_lots(pairs)]
    room = rooms[0]
    for other in rooms[1:]:
        room = shared(pairs.size, room, other)
    return room


def worth(pairs, room, parting):
    there = behind_room(pairs, room)
    return len(room) + sum(rank(there.size, there.lot_rows(sorted(part))) // 2 for part in parting)


def core(pairs):
    """A room behind which nothing is shared: row after row that is shared is put to it."""
    room = []
    while common_room(behind_room(pairs, room)):
        row = common_room(behind_room(pairs, room))[0]
        room = joined(pairs.size, room, steps(pairs.size, ahead(pairs.size, room, [row])))
    return room


def samples(seed):
    chance = random.Random(seed)
    return [random_pairs(chance, size, many) for size in (0, 2, 4, 6) for many in (0, 1, 3, 4, 5) for _ in range(3)]


class GuaranteesTest(unittest.TestCase):

    def test_the_shared_room(self):
        chance = random.Random(41)
        for pairs in samples(41):
            room = common_room(pairs)
            for row in random_rows(chance, pairs.size, 4) + room:
                line = steps(pairs.size, [row])
                if line:
                    fall = greatest(pairs) - greatest(behind_room(pairs, line))
                    self.assertEqual(fall, 1 if is_held(pairs.size, room, row) else 0)

    def test_one_number(self):
        for pairs in samples(42):
            room = core(pairs)
            self.assertEqual(min(worth(pairs, room, parting) for parting in partings(pairs.many)), greatest(pairs))

    def test_no_bound_is_less(self):
        chance = random.Random(43)
        for pairs in samples(43):
            for room, parting in itertools.product([[], random_room(chance, pairs.size)], partings(pairs.many)[:9]):
                self.assertGreaterEqual(worth(pairs, room, parting), greatest(pairs))


if __name__ == "__main__":
    unittest.main()
