"""Claims, their contraries and their papers [93], [94]."""

import itertools
import random
import unittest

from pairsfree.claims import contrary, is_claim, is_paper_of, is_true, paper_of, words
from pairsfree.errors import InvalidClaim, TooMany
from pairsfree.frames import Frame
from pairsfree.pairs import Pairs
from pairsfree.ratios import Ratio
from pairsfree.webs import Web, barrier, matching
from tests.helper import (WRONG_LOTS, Case, few_pairs, kinds, plain_greatest_lots, plain_stands, rationed,
                          sample_frames,
                          some_web, spoil, tupled)

LINES = [("atleast", "below"), ("inall", "spared"), ("insome", "innone"), ("matches", "short"), ("stands", "moves")]
OTHER = {word: other for line in LINES for word, other in (line, line[::-1])}
THREE = Pairs(3, [([1, 0, 0], [0, 1, 0]), ([0, 1, 0], [0, 0, 1]), ([1, 0, 0], [0, 0, 1])])
STAR = Web(4, [(0, 1), (0, 2), (0, 3)])
CORNER = Frame([(0, 0), (1, 0), (0, 1)], [(0, 1), (0, 2), (1, 2)])
EIGHT = Pairs(4, [([1, 0, 0, 0], [0, 1, 0, 0]), ([0, 0, 1, 0], [0, 0, 0, 1])] + [([1, 0, 0, 0], [1, 0, 0, 0])] * 6)
NO_COUNTS = [None, True, False, -1, 9, 10 ** 30, Ratio(1), "1", [1], (1,), {}, object()]
WRONG_CLAIMS = [
    None, True, 0, "", "atleast", [], (), ["atleast", THREE, 1], ("atleast",), ("atleast", THREE),
    ("atleast", THREE, 1, 1),
    ("more", THREE, 1), ("", THREE, 1), (None, THREE, 1), (0, THREE, 1), (["atleast"], THREE, 1),
    (("atleast", "below"), THREE, 1),
    ("atleast ", THREE, 1), ("Atleast", THREE, 1), ("atleast", STAR, 1), ("atleast", CORNER, 1), ("atleast", None, 1),
    ("inall", STAR, 0), ("inall", CORNER, 0), ("insome", [], 0), ("matches", THREE, 1), ("matches", CORNER, 1),
    ("stands", THREE, []), ("stands", STAR, []), ("stands", None, []), ("matches", 1, STAR), {"atleast": THREE},
    object(),
    ("more", STAR, 1), ("more", CORNER, []), ("", CORNER, [0]), (None, CORNER, []), ("atleast", CORNER, [0]),
    ("inall", CORNER, []),
    ("matches", CORNER, [0]), (True, CORNER, [0]), (Ratio(1), STAR, 1), ("words", STAR, 0), ("gone", THREE, 0),
    ("atleast", THREE.told(), 1), ("matches", (4, STAR.ties()), 1), ("stands", ([], []), [])]
WRONG_CLAIMS += [(word, thing, part) for word, thing in (("atleast", THREE), ("below", THREE), ("matches", STAR),
                                                         ("short", STAR))
                 for part in NO_COUNTS]
WRONG_CLAIMS += [(word, THREE, part) for word in ("inall", "spared", "insome", "innone")
                 for part in [3, 4, 8] + [part for part in NO_COUNTS]]
WRONG_CLAIMS += [(word, CORNER, part) for word in ("stands", "moves") for part in WRONG_LOTS]


def small_things(seed):
    """Some Pairs, Webs and Frames; the same at each call."""
    chance = random.Random(seed)
    found = few_pairs(seed, 1, (0, 2, 3, 4, 6), (0, 1, 3, 5)) + [THREE, EIGHT, Pairs(4, EIGHT.told()[:7])]
    return found + [some_web(chance) for _ in range(30)] + [STAR, Web(0, [])] + sample_frames(seed, 1)


def claims_of(things):
    """All claims of the things, with whether they are true, by going through all lots."""
    for thing in things:
        if isinstance(thing, Pairs):
            lots = plain_greatest_lots(thing)
            for many in (0, 1, 2, 3, 4, 8):
                yield ("atleast", thing, many), len(lots[0]) >= many
            for place in range(thing.many):
                yield ("inall", thing, place), all(place in lot for lot in lots)
                yield ("insome", thing, place), any(place in lot for lot in lots)
        elif isinstance(thing, Web):
            number = max(many for many in range(5) for lot in itertools.combinations(thing.ties(), many)
                         if len({place for tie in lot for place in tie}) == 2 * many)
            for many in (0, 1, 2, 3, 4, 8):
                yield ("matches", thing, many), number >= many
        else:
            for many in range(thing.many + 1):
                for pins in list(itertools.combinations(range(thing.many), many))[:3]:
                    yield ("stands", thing, list(pins)), plain_stands(thing, pins)


def both_ways(things):
    """All claims of the things and their contraries, with whether they are true."""
    for claim, so in claims_of(things):
        yield claim, so
        yield (OTHER[claim[0]], *claim[1:]), not so


class ClaimsTest(Case):

    def test_words(self):
        self.assertEqual(words(), LINES)
        self.assertEqual((type(words()), {type(line) for line in words()}), (list, {tuple}))
        spoil(words())
        words().clear()
        self.assertEqual(words(), LINES)

    def test_is_claim(self):
        found = {}
        for claim, _ in both_ways(small_things(161)):
            self.assertIs(is_claim(claim), True)
            found[claim[0]] = claim
        self.assertEqual(sorted(found), sorted(OTHER))
        for word in ("stands", "moves"):
            self.assertIs(is_claim((word, CORNER, (0, 2))), True)
            self.assertIs(is_claim((word, CORNER, ())), True)
        for word in ("atleast", "below"):
            self.assertIs(is_claim((word, THREE, 8)), True)
        for value in WRONG_CLAIMS + kinds():
            self.assertIs(is_claim(value), False)

    def test_is_true(self):
        found = set()
        for claim, so in both_ways(small_things(162)):
            self.assertIs(is_true(claim), so)
            found.add((claim[0], so))
        self.assertEqual(found, set(itertools.product(OTHER, (True, False))))
        self.assertEqual([is_true(("stands", CORNER, (0, 1))), is_true(("moves", CORNER, (0, 1)))], [True, False])

    def test_contrary(self):
        for claim, so in both_ways(small_things(163)):
            other = contrary(claim)
            self.assertIs(type(other), tuple)
            self.assertEqual(other, (OTHER[claim[0]], *claim[1:]))
            self.assertIs(is_true(other), not so)
            self.assertEqual(contrary(other), claim)
        pins = [0, 2]
        found = contrary(("stands", CORNER, pins))
        self.assertIsNot(found[2], pins)
        self.assertEqual(repr(found), repr(("moves", CORNER, [0, 2])))
        self.assertEqual(repr(contrary(("moves", CORNER, (0, 2)))), repr(("stands", CORNER, (0, 2))))

    def test_wrong_claims(self):
        for value in WRONG_CLAIMS + [object(), Ratio(1), (), "x"]:
            for call in (is_true, contrary, paper_of):
                self.fails(InvalidClaim, {"value": value}, call, value)
            for paper in ([], None, object()):
                self.fails(InvalidClaim, {"value": value}, is_paper_of, value, paper)
        self.fails(InvalidClaim, {"value": ("inall", EIGHT, 8)}, paper_of, ("inall", EIGHT, 8))


class PapersTest(Case):

    def test_a_paper_exactly_if_true(self):
        for claim, so in both_ways(small_things(164)):
            if isinstance(claim[1], Pairs) and claim[1].many == 8:
                continue
            paper = paper_of(claim)
            self.assertIs(paper is not None, so and claim[0] != "stands")
            self.assertIs(is_paper_of(claim, paper), paper is not None)
            if paper is not None:
                for other in (tupled(paper), rationed_rows(claim[0], paper)):
                    self.assertIs(is_paper_of(claim, other), True)
                self.assertIs(is_paper_of(contrary(claim), paper), False)

    def test_no_value_is_a_paper_of_what_is_not_true(self):
        things = [thing for thing in small_things(165) if thing.many < 6][::3] + [THREE, STAR, CORNER]
        papers = [paper_of(claim) for claim, _ in both_ways(things) if claim[1].many < 8]
        papers = list({repr(paper): paper for paper in papers if paper is not None}.values())
        shown = 0
        for claim, so in both_ways([THREE, STAR, CORNER, things[9], things[12], EIGHT]):
            for paper in papers:
                if is_paper_of(claim, paper):
                    self.assertIs(so, True)
                    self.assertIs(is_paper_of(contrary(claim), paper), False)
                    shown += 1
        self.assertGreater(shown, 20)

    def test_papers_of_each_kind(self):
        below, room = ("below", THREE, 2), [[1, 0, 0]]
        for claim, right, wrong in (
                (("atleast", THREE, 1), [[0], [1], [2], (2,)], [[], [3], [0, 1], [True], 0, None, "0", {0},
                                                                ([0], [], [])]),
                (("atleast", THREE, 0), [[], (), [0], (1,)], [[0, 1], None, [[0]]]),
                (("atleast", EIGHT, 1), [[0], [1], [0, 1]], [[2], [0, 2], [], [1, 0], [Ratio(0)]]),
                (below, [([], [[0, 1, 2]]), ((), ((2, 0, 1),))],
                 [(room, [[0, 1, 2]]), (room, ([1], [0, 2])), ([], [[0], [1, 2]]), [[], [[0, 1, 2]]], (room, [[0, 1]]),
                  ([[2, 0, 0]], [[0, 1, 2]]), ([], [[0, 1, 2]], []),
                  ([],), ([], [[0, 1, True]]), (room, [[0], [1], [2]]), None, (), ([0], [], [[0, 1, 2]]),
                  ([[1, 0]], [[0, 1, 2]])]),
                (("below", THREE, 3), [([], [[0], [1, 2]]), (room, ((0,), [1], (2,))), ([], [[0, 1, 2]])],
                 [([], [[0], [1], [2]])]),
                (("below", EIGHT, 3), [([], [[0], [1], [2, 3, 4, 5, 6, 7]])], [([], [[0], [1]])]),
                (("spared", THREE, 0), [([1], [], [[0, 1, 2]]), ((2,), (), ((0, 2, 1),))],
                 [([0], [], [[0, 1, 2]]), ([1], [], [[0], [1, 2]]), [[1], [], [[0, 1, 2]]], (), None]),
                (("insome", THREE, 0), [([0], [], [[0, 1, 2]])], [([1], [], [[0, 1, 2]]), ([0], [], [[0], [1, 2]]),
                                                                  ()]),
                (("inall", EIGHT, 0), [([0, 1], [], [[0, 1, 2, 3, 4, 5, 6]])],
                 [([0], [], [[0, 1, 2, 3, 4, 5, 6]]), ()]),
                (("innone", EIGHT, 7), [()], [[], ([0, 1], [], [[0], [1]]), None, ([],)]),
                (("matches", STAR, 1), [[0], [1], (2,)], [[], [0, 1], [3], [True], None, 0]),
                (("matches", STAR, 0), [[], [0], (), [1], (2,)], [[0, 1], None]),
                (("short", STAR, 2), [[0], (0,)], [[], [1], [0, 1], [1, 0], [4], [False], None, 0]),
                (("short", STAR, 3), [[0], [], [1], [0, 3]], [[0, 1, 2, 3], [1, 2, 3]]),
                (("moves", CORNER, [0]), [[0, 0, 0, 2, -2, 0], (0, 0, 0, Ratio(1, 3), Ratio(-1, 3), 0)],
                 [[0] * 6, [1, 0] * 3, [0, 0, 0, 1, 1, 0], [0, 0, 0, 2, -2], None, [], [[0, 0, 0, 2, -2, 0]]]),
                (("stands", CORNER, [0, 1]), [], [[], (), [0] * 6, None, [0, 1]]),
                (("stands", CORNER, [0]), [], [[0, 0, 0, 2, -2, 0], []])):
            for paper in right:
                self.assertIs(is_paper_of(claim, paper), True, (claim, paper))
            taken = [repr(tupled(paper)) for paper in right]
            others = [value for value in kinds() if repr(tupled(value)) not in taken]
            for paper in wrong + others:
                self.assertIs(is_paper_of(claim, paper), False, (claim, paper))

    def test_told(self):
        self.assertEqual(paper_of(("below", THREE, 2)), ([], [[0, 1, 2]]))
        self.assertEqual(paper_of(("innone", Pairs(2, [([1, 0], [2, 0])]), 0)), ())
        self.assertEqual(paper_of(("short", STAR, 2)), barrier(STAR))
        self.assertEqual(len(paper_of(("matches", STAR, 1))), len(matching(STAR)))
        self.assertEqual([paper_of(("stands", CORNER, [0, 1])), paper_of(("stands", CORNER, [0])),
                          paper_of(("moves", CORNER, [0, 1])), paper_of(("atleast", THREE, 2))], [None] * 4)

    def test_eight_pairs(self):
        for word, part in (("below", 3), ("below", 1), ("inall", 0), ("inall", 7), ("spared", 0), ("spared", 7),
                           ("insome", 0),
                           ("insome", 7), ("innone", 0), ("innone", 7)):
            self.fails(TooMany, {"what": "pairs", "limit": 7}, paper_of, (word, EIGHT, part))
            self.assertIs(type(is_true((word, EIGHT, part))), bool)
        self.assertEqual([paper_of(("atleast", EIGHT, 2)), paper_of(("atleast", EIGHT, 3))], [[0, 1], None])
        seven = Pairs(4, EIGHT.told()[:7])
        self.assertIs(is_paper_of(("below", seven, 3), paper_of(("below", seven, 3))), True)
        self.assertIs(paper_of(("innone", seven, 0)), None)

    def test_arguments_and_answers(self):
        for claim in (("atleast", THREE, 1), ("below", THREE, 2), ("spared", THREE, 0), ("insome", THREE, 0),
                      ("inall", THREE, 0),
                      ("innone", THREE, 0), ("matches", STAR, 1), ("short", STAR, 2), ("stands", CORNER, [0, 1]),
                      ("moves", CORNER, [0]), ("moves", CORNER, (0,))):
            self.answers_alike(is_claim, value=claim)
            for call in (is_true, contrary, paper_of):
                self.answers_alike(call, claim=claim)
            self.answers_alike(is_paper_of, claim=claim, value=paper_of(claim))


def rationed_rows(word, paper):
    """The paper with Ratios in its rows: of a move in all of it, of a bound in its room."""
    if word == "moves":
        return rationed(paper)
    if word == "below":
        return rationed(paper[0]), paper[1]
    if word in ("inall", "spared", "insome", "innone") and paper:
        return paper[0], rationed(paper[1]), paper[2]
    return paper


if __name__ == "__main__":
    unittest.main()
