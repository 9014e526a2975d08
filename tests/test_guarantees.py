"""The guarantees [4], against a plain search that goes through all lots, and through all partings."""

import itertools
import random
import unittest

from pairsfree.bounds import worth
from pairsfree.common import behind_row, common_room
from pairsfree.engine import is_papers, papers
from pairsfree.frames import frame_pairs
from pairsfree.lots import greatest
from pairsfree.partings import partings
from pairsfree.pins import fewest_pins, is_pins, pins
from pairsfree.rooms import is_held
from pairsfree.shown import (all_paper, is_all_paper, is_none_paper, is_some_paper, is_spared_paper, none_paper,
                             some_paper, spared_paper)
from pairsfree.steps import steps
from pairsfree.turned import rank_at, trial_numbers
from tests.helper import (few_pairs, is_in_all_rooms, lot_rows, plain_fewest, plain_greatest, plain_greatest_lots,
                          plain_partings, plain_rank, plain_worth, random_room, random_rows, sample_frames)

SMALL = {"sizes": (0, 2, 4, 6), "manies": (0, 1, 3, 4, 5)}


class GuaranteesTest(unittest.TestCase):

    def test_one_number(self):
        for pairs in few_pairs(42, 2, **SMALL):
            number = plain_greatest(pairs)
            lot, room, parting = papers(pairs)
            self.assertTrue(is_papers(pairs, (lot, room, parting)))
            self.assertEqual([len(lot), plain_worth(pairs, room, parting), greatest(pairs)], [number] * 3)
            self.assertEqual(plain_rank(lot_rows(pairs.told(), lot)), 2 * number)
            self.assertEqual(min(plain_worth(pairs, room, other) for other in plain_partings(pairs.many)), number)

    def test_no_bound_is_less(self):
        chance = random.Random(43)
        for pairs in few_pairs(43, **SMALL):
            for room, parting in itertools.product([[], random_room(chance, pairs.size)], partings(pairs.many)[:9]):
                self.assertGreaterEqual(worth(pairs, room, parting), plain_greatest(pairs))

    def test_the_shared_room(self):
        chance = random.Random(41)
        falls = []
        for pairs in few_pairs(41, **SMALL):
            room = common_room(pairs)
            for row in random_rows(chance, pairs.size, 3) + room:
                if steps(pairs.size, [row]):
                    falls.append(plain_greatest(pairs) - plain_greatest(pairs, [row]))
                    self.assertEqual(falls[-1], 1 if is_in_all_rooms(pairs, row) else 0)
                    self.assertEqual(falls[-1], 1 if is_held(pairs.size, room, row) else 0)
                    self.assertEqual(falls[-1], greatest(pairs) - greatest(behind_row(pairs, row)))
        self.assertEqual(set(falls), {0, 1})

    def test_in_all_in_none(self):
        for pairs in few_pairs(44, **SMALL):
            lots = plain_greatest_lots(pairs)
            for place in range(pairs.many):
                having = [place in lot for lot in lots]
                for so, paper, judge in ((all(having), all_paper, is_all_paper),
                                         (any(having), some_paper, is_some_paper),
                                         (not all(having), spared_paper, is_spared_paper),
                                         (not any(having), none_paper, is_none_paper)):
                    self.assertIs(judge(pairs, place, paper(pairs, place)), so)
                    self.assertIs(paper(pairs, place) is None, not so)

    def test_turned_signs(self):
        for pairs in few_pairs(45, sizes=(0, 2, 4, 6), manies=(0, 1, 2, 3)):
            number = plain_greatest(pairs)
            ranks = [rank_at(pairs, numbers) for numbers in itertools.product((-1, 0, 2), repeat=pairs.many)]
            self.assertEqual(max(ranks), 2 * number)
            self.assertEqual(rank_at(pairs, trial_numbers(pairs)), 2 * number)

    def test_fewest_pins(self):
        found = []
        for frame in sample_frames(46, 4):
            found.append(plain_fewest(frame))
            self.assertEqual(fewest_pins(frame), found[-1])
            self.assertEqual(frame.many - plain_greatest(frame_pairs(frame)), found[-1])
            self.assertTrue(is_pins(frame, pins(frame)))
            self.assertEqual(len(pins(frame)), found[-1])
        self.assertEqual(set(found), {0, 1, 2, 3, 4, 5})


if __name__ == "__main__":
    unittest.main()
