"""The examples of the interface, as they stand, one behind another: names stand for what they were before."""

import doctest
import unittest

RATIOS = """
>>> from pairsfree.ratios import Ratio
>>> [Ratio(4, -6), str(Ratio(1, 2) + 3), Ratio(1, 3).is_below(Ratio(2, 5))]
[Ratio(-2, 3), '7/2', True]
"""

STEPS = """
>>> from pairsfree.steps import rank, steps, zeros
>>> [steps(2, [[0, 2], [0, 4]]) == [[Ratio(0), Ratio(1)]], rank(3, [[1, 0, 0], [1, 1, 0], [0, 1, 0]]), zeros(2, [[1, 2]]) == [[Ratio(1), Ratio(-1, 2)]], zeros(1, []), steps(0, [[], []])]
[True, 2, True, [[Ratio(1, 1)]], []]
"""

ROOMS = """
>>> from pairsfree.rooms import ahead, behind, beside, is_held, is_room, joined, shared
>>> one, other = [[1, 0, 2]], [[0, 1, -1]]
>>> [is_room(3, one), is_room(3, [[2, 0, 1]]), joined(3, other, one) == [[Ratio(1), Ratio(0), Ratio(2)], [Ratio(0), Ratio(1), Ratio(-1)]], shared(3, one, other), is_held(3, one, [Ratio(1, 2), 0, 1])]
[True, False, True, [], True]
>>> [behind(3, one, [[3, 1, 0], [1, 0, 2]]) == [[Ratio(1), Ratio(-6)], [Ratio(0), Ratio(0)]], ahead(3, one, [[5, 6]]) == [[Ratio(0), Ratio(5), Ratio(6)]], beside(2, [[1, 4]]), behind(1, [[1]], [[7]])]
[True, True, [[Ratio(0, 1), Ratio(1, 1)]], [[]]]
"""

PAIRS = """
>>> from pairsfree.pairs import Pairs
>>> three = Pairs(4, [([1, 0, 0, 0], [0, 1, 0, 0]), ([0, 0, 1, 0], [0, 0, 0, 1]), ([1, 0, 0, 0], [0, 0, 1, 0])])
>>> [three.size, three.many, len(three.told()), len(three.lot_rows([0, 2])), three.lot_rows([]), [str(number) for number in three.pair(2)[1]], three == Pairs(4, three.told()), Pairs(0, [([], [])])]
[4, 3, 3, 4, [], ['0', '0', '1', '0'], True, Pairs(0, [([], [])])]
"""

LOTS = """
>>> from pairsfree.lots import free_lots, greatest, greatest_lots, handed, is_free, is_lot, lot_rank
>>> [is_lot(three, [0, 2]), is_lot(three, [2, 0]), lot_rank(three, [0, 2]), is_free(three, [0, 2]), free_lots(three, 1), greatest(three), greatest_lots(three)]
[True, False, 3, False, [[0], [1], [2]], 2, [[0, 1]]]
>>> [handed(three, [2], [0, 1]), handed(three, [], [0, 1]), greatest(Pairs(3, [])), greatest_lots(Pairs(1, [([1], [1])])), free_lots(three, 3)]
[[], [0, 1], 0, [[]], []]
"""

PARTINGS = """
>>> from pairsfree.pairs import Pairs
>>> from pairsfree.partings import is_finer, is_parting, partings, told_parting
>>> three = Pairs(3, [([1, 0, 0], [0, 1, 0]), ([0, 1, 0], [0, 0, 1]), ([1, 0, 0], [0, 0, 1])])
>>> [is_parting(three, [[2, 0], [1]]), is_parting(three, [[0], [1]]), is_parting(three, [[0, 1], [1, 2]]), told_parting(three, ([2], (1, 0))), partings(2), len(partings(5)), partings(0)]
[True, False, False, [[0, 1], [2]], [[[0], [1]], [[0, 1]]], 52, [[]]]
>>> [is_finer(three, [[0], [1], [2]], [[2, 0], [1]]), is_finer(three, [[0, 2], [1]], [[0, 1], [2]])]
[True, False]
"""

BOUNDS = """
>>> from pairsfree.bounds import best_parting, is_tight, least_worth, part_ranks, worth
>>> star = Pairs(4, [([1, 0, 0, 0], [0, 1, 0, 0]), ([1, 0, 0, 0], [0, 0, 1, 0]), ([1, 0, 0, 0], [0, 0, 0, 1])])
>>> [part_ranks(three, [], [[0, 1, 2]]), worth(three, [], [[0, 1, 2]]), worth(three, [], [[0], [2, 1]]), best_parting(three, []), is_tight(three, [], [[0, 1, 2]])]
[[3], 1, 2, [[0, 1, 2]], True]
>>> [least_worth(star, []), part_ranks(star, [[1, 0, 0, 0]], [[1], [0], [2]]), least_worth(star, [[1, 0, 0, 0]]), is_tight(star, [], [[0, 1, 2]])]
[2, [1, 1, 1], 1, False]
"""

COMMON = """
>>> from pairsfree.common import behind_room, behind_row, common_room, is_common
>>> from pairsfree.pairs import Pairs
>>> star, ring = Pairs(3, [([1, 0, 0], [0, 1, 0]), ([1, 0, 0], [0, 0, 1])]), Pairs(3, [([1, 0, 0], [0, 1, 0]), ([0, 1, 0], [0, 0, 1]), ([1, 0, 0], [0, 0, 1])])
>>> [common_room(star) == steps(3, [[1, 0, 0]]), common_room(ring), is_common(star, [2, 0, 0]), is_common(star, [1, 1, 0]), behind_row(star, [2, 0, 0]) == Pairs(2, [([0, 0], [1, 0]), ([0, 0], [0, 1])]), behind_room(ring, []) == ring]
[True, [], True, False, True, True]
"""

ENGINE = """
>>> from pairsfree.engine import bound, core, first_lot, is_bound, is_papers, papers
>>> [core(ring), bound(ring), core(star) == steps(3, [[1, 0, 0]]), is_bound(star, ([[1, 0, 0]], [[1], [0]])), is_bound(star, ([], [[0, 1]])), is_bound(star, ([], [[0], [1]])), first_lot(ring)]
[[], ([], [[0, 1, 2]]), True, True, True, False, [0]]
>>> [is_papers(ring, ([2], [], [[0, 1, 2]])), is_papers(ring, papers(ring)), is_papers(ring, ([0], [[1, 0, 0]], [[0], [1], [2]]))]
[True, True, False]
"""

WHICH = """
>>> from pairsfree.pairs import Pairs
>>> from pairsfree.which import falls, in_all, in_none, in_some, put_in, without
>>> four = Pairs(4, [((1, 0, 0, 0), (0, 1, 0, 0)), ((0, 0, 1, 0), (0, 0, 0, 1)), ((1, 0, 0, 0), (0, 0, 1, 0))])
>>> [in_all(four), in_some(four), in_none(four), falls(four, 0), falls(four, 2), without(four, 1).many, put_in(without(four, 2), four.pair(2)) == four]
[[0, 1], [0, 1], [2], True, False, 2, True]
"""

SHOWN = """
>>> from pairsfree.shown import all_paper, is_all_paper, is_none_paper, is_some_paper, is_spared_paper, none_paper, some_paper, spared_paper
>>> two = Pairs(2, [((1, 0), (0, 1)), ((1, 1), (0, 2)), ((1, 0), (2, 0))])
>>> [is_spared_paper(two, 0, ([1], [], [[0, 1, 2]])), is_some_paper(two, 0, ([0], [], [[0], [1], [2]])), none_paper(two, 2), all_paper(two, 0), is_none_paper(four, 2, ([0, 1], [], [[0], [1], [2]])), is_all_paper(four, 0, ([0, 1], [], [[1, 0]]))]
[True, False, (), None, True, True]
>>> [is_all_paper(four, 0, all_paper(four, 0)), is_none_paper(four, 2, none_paper(four, 2)), some_paper(four, 2), is_spared_paper(two, 1, spared_paper(two, 1)), is_some_paper(two, 1, some_paper(two, 1)), is_none_paper(two, 2, ([0], [], [[0, 1, 2]]))]
[True, True, None, True, True, False]
"""

TURNED = """
>>> from pairsfree.pairs import Pairs
>>> from pairsfree.turned import is_trial, is_turned, rank_at, trial_numbers, turned_sum
>>> ring = Pairs(3, [((1, 0, 0), (0, 1, 0)), ((0, 1, 0), (0, 0, 1)), ((1, 0, 0), (0, 0, 1))])
>>> [turned_sum(ring, [1, 2, 3])[1] == turned_sum(ring, (0, 2, 0))[1], is_turned(turned_sum(ring, [1, 2, 3])), rank_at(ring, [1, 2, 3]), is_trial(ring, [0, 0, 0]), is_trial(ring, trial_numbers(ring)), is_turned([[0, 1], [1, 0]])]
[False, True, 2, False, True, False]
"""

PFAFFIANS = """
>>> from pairsfree.pfaffians import at_places, lot_share, pfaffian, shares
>>> four = [[0, 1, 2, 3], [-1, 0, 4, 5], [-2, -4, 0, 6], [-3, -5, -6, 0]]
>>> [pfaffian(four), pfaffian([]), pfaffian([[0]]), at_places(four, [0, 2]) == at_places([[0, 2], [-2, 0]], (0, 1)), lot_share(ring, [1], [1, 2]), lot_share(ring, [], []), shares(ring, [0, 2]), shares(ring, ())]
[Ratio(8, 1), Ratio(1, 1), Ratio(0, 1), True, Ratio(1, 1), Ratio(1, 1), [([2], Ratio(1, 1))], [([], Ratio(1, 1))]]
"""

WEBS = """
>>> from pairsfree.webs import Web, barrier, barrier_worth, is_barrier, is_matching, left_places, matching, matching_number, pieces, web_pairs
>>> kite, star = Web(5, [(0, 1), (1, 2), (0, 2), (2, 3), (3, 4)]), Web(4, [(0, 1), (0, 2), (0, 3)])
>>> [matching_number(kite), is_matching(kite, [0, 4]), is_matching(kite, [0, 1]), left_places(kite), pieces(kite, [3]), barrier_worth(kite, [3]), barrier_worth(kite, []), is_barrier(kite, [0])]
[2, True, False, [0, 1, 2, 4], [[0, 1, 2], [4]], 2, 2, False]
>>> [matching_number(star), left_places(star), is_barrier(star, barrier(star)), is_barrier(star, []), len(matching(star)), web_pairs(star).size, web_pairs(star).many]
[1, [1, 2, 3], True, False, 1, 4, 3]
"""

HOUSES = """
>>> from pairsfree.houses import both_free, cover, cover_worth, house_pairs, is_cover
>>> from pairsfree.pairs import Pairs
>>> first, second = [[1, 0], [2, 0], [0, 1]], [[1], [0], [3]]
>>> [both_free(first, second), cover_worth(first, second, []), cover_worth(first, second, [0, 1]), is_cover(first, second, cover(first, second)), is_cover(first, second, [0, 2])]
[1, 1, 2, True, False]
>>> [house_pairs([[0, 1]], [[3]]) == Pairs(3, [([0, 1, 0], [0, 0, 3])]), both_free([], []), both_free([[1], [1]], [[1, 0], [0, 1]]), cover([], [])]
[True, 0, 1, []]
"""

THREES = """
>>> from pairsfree.pairs import Pairs
>>> from pairsfree.threes import has_ring, ringless, ringless_number, spans, three_pairs
>>> [three_pairs(3, [(0, 1, 2)]) == Pairs(3, [([1, -1, 0], [1, 0, -1])]), has_ring(5, [(0, 1, 2), (2, 3, 4)]), has_ring(5, [(0, 1, 2), (0, 1, 3)]), ringless(5, [(0, 1, 2), (2, 3, 4), (1, 2, 3)])]
[True, False, True, [0, 1]]
>>> [ringless_number(6, [(0, 1, 2), (0, 1, 3), (3, 4, 5)]), spans(5, [(0, 1, 2), (2, 3, 4)]), spans(6, [(0, 1, 2), (3, 4, 5)]), spans(0, []), spans(1, []), ringless_number(2, [])]
[2, True, False, True, True, 0]
"""

FRAMES = """
>>> from pairsfree.frames import Frame, bar_table, frame_pairs
>>> three = Frame([(0, 0), (1, 0), (0, 1)], [(0, 1), (0, 2), (1, 2)])
>>> [three.many, three.bars(), [str(number) for number in bar_table(three)[2]], frame_pairs(three) == Pairs(3, [([-1, 0, 0], [0, -1, 0]), ([1, 0, 1], [0, 0, -1]), ([0, 0, -1], [0, 1, 1])])]
[3, [(0, 1), (0, 2), (1, 2)], ['0', '0', '1', '-1', '-1', '1'], True]
>>> [frame_pairs(Frame([(0, 0)], [])).size, frame_pairs(Frame([], [])).many, Frame([(0, 0)], []) == Frame([], [])]
[0, 0, False]
"""

PINS = """
>>> from pairsfree.pins import fewest_pins, is_move, is_pins, moves, pins, stands
>>> [[[str(number) for number in row] for row in moves(three, [0])], len(moves(three, [])), stands(three, [0]), stands(three, [0, 1]), is_move(three, [0], [0, 0, 0, 2, -2, 0]), is_move(three, [0], [0] * 6)]
[[['0', '0', '0', '1', '-1', '0']], 3, False, True, True, False]
>>> [fewest_pins(three), len(pins(three)), is_pins(three, pins(three)), is_pins(three, [0, 1, 2]), is_pins(three, [1, 0]), fewest_pins(Frame([(0, 0), (0, 0)], [(0, 1)])), fewest_pins(Frame([], []))]
[2, 2, True, True, False, 2, 0]
"""

TEXTS = """
>>> from pairsfree.pairs import Pairs
>>> from pairsfree.ratios import Ratio
>>> from pairsfree.texts import is_of_sort, written
>>> [written("row", [1, Ratio(-3, 2)]), written("parting", [[2, 1], [0]]), written("room", (2, [[1, 2]])), written("pairs", Pairs(1, [([1], [0])])), is_of_sort("lot", [1, 0])]
['row 1 -3/2\\n', 'parting\\npart 0\\npart 1 2\\n', 'room 2\\nrow 1 2\\n', 'pairs 1\\nfirst 1\\nsecond 0\\n', False]
"""

READERS = """
>>> from pairsfree.readers import read
>>> from pairsfree.webs import Web
>>> [read("lot 0 2\\n"), read("parting\\npart 0 1\\n"), read("room 2\\n"), read("row 1/2\\n"), read("web 3\\ntie 0 2\\n") == ("web", Web(3, [(0, 2)]))]
[('lot', [0, 2]), ('parting', [[0, 1]]), ('room', (2, [])), ('row', [Ratio(1, 2)]), True]
"""

CLAIMS = """
>>> from pairsfree.claims import contrary, is_claim, is_paper_of, is_true
>>> three = Pairs(3, [([1, 0, 0], [0, 1, 0]), ([0, 1, 0], [0, 0, 1]), ([1, 0, 0], [0, 0, 1])])
>>> [is_true(("atleast", three, 2)), is_paper_of(("atleast", three, 1), [2]), is_paper_of(("below", three, 2), ([], [[0, 1, 2]])), is_paper_of(("below", three, 2), ([], [[0, 1], [2]])), contrary(("inall", three, 0)) == ("spared", three, 0)]
[False, True, True, False, True]
>>> [is_claim(("inall", three, 3)), is_paper_of(("matches", Web(3, [(0, 1), (1, 2)]), 1), [1]), is_paper_of(("short", Web(3, [(0, 1), (1, 2)]), 2), [1]), is_claim(("atleast", three, True))]
[False, True, True, False]
"""

COMMANDS = """
>>> from pairsfree.commands import is_command, is_deed
>>> [is_command("pairs p 2 1,0:0,1/2"), is_command("pairs p 2 1,0"), is_deed("claim k inall p 0"), is_command("free p -"), is_deed("undo")]
[True, False, True, True, False]
"""

DESK = """
>>> from pairsfree.desk import Desk
>>> desk = Desk()
>>> desk.do_all("web w 5 0:1;1:2;0:2;2:3;3:4", "claim k matches w 2", "ofweb p w", "greatest p", "lot p", "some p", "claim m inall p 3", "left w", "cut w 4", "cut w 3")
['-', 'k true', '-', '2', '0,3', '0,1,2,3,4', 'm false', '0,1,2,4', '-', 'k false']
>>> desk.do_all("undo", "states", "pairs q 2 1,0:0,1;1,1:1,2", "common c q", "show c", "pair q 1 1,0 0,0", "none q", "show w")
['cut w 3', 'k true, m false', '-', '-', '2 1,0;0,1', '-', '1', '5 0:1;1:2;0:2;2:3']
"""

EXAMPLES = (
    ("ratios", RATIOS), ("steps", STEPS), ("rooms", ROOMS), ("pairs", PAIRS), ("lots", LOTS), ("partings", PARTINGS),
    ("bounds", BOUNDS), ("common", COMMON), ("engine", ENGINE), ("which", WHICH), ("shown", SHOWN),
    ("turned", TURNED), ("pfaffians", PFAFFIANS), ("webs", WEBS), ("houses", HOUSES), ("threes", THREES),
    ("frames", FRAMES), ("pins", PINS), ("texts", TEXTS), ("readers", READERS), ("claims", CLAIMS),
    ("commands", COMMANDS), ("desk", DESK))


class ExamplesTest(unittest.TestCase):

    def test_examples(self):
        names = {}
        for name, text in EXAMPLES:
            told = []
            test = doctest.DocTestParser().get_doctest(text, names, name, None, 0)
            found = doctest.DocTestRunner(verbose=False).run(test, out=told.append, clear_globs=False)
            names = test.globs
            self.assertGreater(found.attempted, 0)
            self.assertEqual(found.failed, 0, "".join(told))


if __name__ == "__main__":
    unittest.main()
