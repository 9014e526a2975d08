"""What the deeds of a desk keep, note and answer, and their errors: the first table of [98], [95] to [97]."""

import unittest

from pairsfree.common import behind_room, common_room
from pairsfree.desk import Desk
from pairsfree.errors import (InvalidBars, InvalidClaim, InvalidPair, InvalidPlace, InvalidRoom, InvalidRows,
                              InvalidSize,
                              InvalidThrees, InvalidTies, LabelTaken, NameTaken, TooMany, UnknownLabel, UnknownName)
from pairsfree.frames import Frame, frame_pairs
from pairsfree.houses import house_pairs
from pairsfree.pairs import Pairs
from pairsfree.ratios import Ratio
from pairsfree.rooms import joined, shared
from pairsfree.steps import steps
from pairsfree.threes import three_pairs
from pairsfree.webs import Web, web_pairs
from pairsfree.which import put_in, without
from tests.helper import Case, numbers_are_ratios, rationed, whole

FIRST = ["pairs p 3 1,0,0:0,1,0;0,1,0:0,0,1;1,0,0:0,0,1", "web w 4 0:1;0:2;0:3", "frame f 0:0;1:0;0:1 0:1;0:2;1:2",
         "room r 3 1,0,2", "room s 3 2,2,0;0,1,-1/2"]
P = Pairs(3, [([1, 0, 0], [0, 1, 0]), ([0, 1, 0], [0, 0, 1]), ([1, 0, 0], [0, 0, 1])])
W, F = Web(4, [(0, 1), (0, 2), (0, 3)]), Frame([(0, 0), (1, 0), (0, 1)], [(0, 1), (0, 2), (1, 2)])
R, S = rationed([[1, 0, 2]]), steps(3, [[2, 2, 0], [0, 1, Ratio(-1, 2)]])
TOLD = {"p": P, "w": W, "f": F, "r": (3, R), "s": (3, S)}


def desk_with(*lines):
    desk = Desk()
    desk.do_all(*FIRST, *lines)
    return desk


class DeskCase(Case):

    def fails_unchanged(self, desk, error, told, command):
        """The command fails so, by do and by calling the desk, and nothing of the desk is changed."""
        ahead = whole(desk)
        for call in (desk.do, desk):
            self.fails(error, told, call, command)
            self.fails(error, told, call, command=command)
        self.assertEqual(whole(desk), ahead)


class KeptTest(DeskCase):

    def test_first_things(self):
        desk = desk_with()
        self.assertEqual(desk.names, sorted(TOLD))
        for name, thing in TOLD.items():
            self.assertEqual(desk[name], thing)
            self.assertIs(type(desk[name]), type(thing))
        self.assertTrue(numbers_are_ratios(desk["s"][1]))
        self.assertEqual((type(desk["r"][0]), type(desk["r"][1])), (int, list))

    def test_each_deed_that_keeps_a_thing(self):
        for line, thing in (
                ("pairs n 2 1,0:0,1/2", Pairs(2, [([1, 0], [0, Ratio(1, 2)])])),
                ("pairs n 0 -:-;-:-", Pairs(0, [([], [])] * 2)),
                ("pairs n 8 none", Pairs(8, [])),
                ("pairs n 1 -999999/8:1/999999", Pairs(1, [([Ratio(-999999, 8)], [Ratio(1, 999999)])])),
                ("web n 5 0:1;3:4;0:1", Web(5, [(0, 1), (3, 4), (0, 1)])), ("web n 8 none", Web(8, [])),
                ("frame n 0:0;1/2:-3 0:1;0:1", Frame([(0, 0), (Ratio(1, 2), -3)], [(0, 1)] * 2)),
                ("frame n none none", Frame([], [])),
                ("frame n 1:1 none", Frame([(1, 1)], [])),
                ("room n 2 2,4;1,2", (2, rationed([[1, 2]]))), ("room n 8 none", (8, [])), ("room n 0 -;-", (0, [])),
                ("room n 1 0;3", (1, rationed([[1]]))), ("room n 2 " + ";".join(["0,5"] * 40), (2, rationed([[0, 1]]))),
                ("put n p 1,2,3 0,0,1/2", put_in(P, ([1, 2, 3], [0, 0, Ratio(1, 2)]))),
                ("without n p 1", without(P, 1)),
                ("behind n p r", behind_room(P, R)), ("behind n p s", behind_room(P, S)), ("ofweb n w", web_pairs(W)),
                ("offrame n f", frame_pairs(F)), ("threes n 5 0:1:2;2:3:4", three_pairs(5, [(0, 1, 2), (2, 3, 4)])),
                ("threes n 0 none", Pairs(0, [])), ("houses n 1,0;2,0 1;3", house_pairs([[1, 0], [2, 0]], [[1], [3]])),
                ("houses n none none", Pairs(0, [])), ("houses n -;- 1;2", house_pairs([[], []], [[1], [2]])),
                ("common n p", (3, common_room(P))), ("joined n r s", (3, joined(3, R, S))),
                ("shared n r s", (3, shared(3, R, S))),
                ("joined n s r", (3, joined(3, R, S))), ("shared n r r", (3, R)), ("joined n r r", (3, R))):
            for call in ("do", "__call__"):
                desk = desk_with()
                self.assertEqual(getattr(desk, call)(line), "-")
                self.assertEqual(desk["n"], thing, line)
                self.assertIs(type(desk["n"]), type(thing))
                self.assertEqual({name: desk[name] for name in TOLD}, TOLD)
                self.assertEqual(desk.lines(), FIRST + [line])

    def test_common_and_shared_rooms_that_are_not_nothing(self):
        desk = desk_with("pairs n 3 1,0,0:0,1,0;1,0,0:0,0,1", "common c n", "room x 3 1,0,0;0,1,0",
                         "room y 3 0,1,0;0,0,1",
                         "shared z x y", "behind b n c")
        self.assertEqual([desk["c"], desk["z"]], [(3, rationed([[1, 0, 0]])), (3, rationed([[0, 1, 0]]))])
        self.assertEqual(desk["b"], Pairs(2, [([0, 0], [1, 0]), ([0, 0], [0, 1])]))

    def test_each_deed_that_changes_a_thing(self):
        for line, name, thing in (
                ("pair p 1 1,1,1 0,0,1/2", "p", Pairs(3, [P.pair(0), ([1, 1, 1], [0, 0, Ratio(1, 2)]), P.pair(2)])),
                ("tie w 2 3", "w", Web(4, W.ties() + [(2, 3)])), ("cut w 0", "w", Web(4, [(0, 2), (0, 3)])),
                ("cut w 2", "w", Web(4, [(0, 1), (0, 2)]))):
            desk = desk_with()
            self.assertEqual(desk.do(line), "-")
            self.assertEqual(desk[name], thing)
            self.assertEqual({other: desk[other] for other in TOLD if other != name},
                             {other: TOLD[other] for other in TOLD if other != name})
        for name in TOLD:
            desk = desk_with()
            self.assertEqual(desk.do("drop " + name), "-")
            self.assertEqual(desk.names, [other for other in sorted(TOLD) if other != name])
            self.fails(UnknownName, {"value": name}, lambda: desk[name])

    def test_what_is_kept_hangs_on_no_other_name(self):
        desk = desk_with("ofweb n w", "offrame o f", "without q p 0", "behind b p r")
        ahead = [desk[name] for name in ("n", "o", "q", "b")]
        desk.do_all("cut w 0", "drop f", "pair p 1 0,0,0 0,0,0", "drop r", "drop p")
        self.assertEqual([desk[name] for name in ("n", "o", "q", "b")], ahead)
        desk.do("pairs p 1 none")
        self.assertEqual(desk["p"], Pairs(1, []))


class ClaimsNotedTest(DeskCase):

    def test_each_claim(self):
        for line, claim, state in (
                ("atleast p 1", ("atleast", P, 1), "true"), ("atleast p 2", ("atleast", P, 2), "false"),
                ("below p 2", ("below", P, 2), "true"), ("below p 0", ("below", P, 0), "false"),
                ("atleast p 8", ("atleast", P, 8), "false"),
                ("inall p 0", ("inall", P, 0), "false"), ("spared p 2", ("spared", P, 2), "true"),
                ("insome p 2", ("insome", P, 2), "true"),
                ("innone p 0", ("innone", P, 0), "false"), ("matches w 1", ("matches", W, 1), "true"),
                ("matches w 8", ("matches", W, 8), "false"),
                ("short w 2", ("short", W, 2), "true"), ("stands f 0,1", ("stands", F, [0, 1]), "true"),
                ("stands f -", ("stands", F, []), "false"),
                ("moves f 0", ("moves", F, [0]), "true"), ("moves f 0,1,2", ("moves", F, [0, 1, 2]), "false")):
            desk = desk_with()
            self.assertEqual(desk.do("claim k " + line), "k " + state)
            self.assertEqual(desk.claim_of("k"), claim)
            self.assertEqual({type(part) for part in desk.claim_of("k")[2:]}, {type(claim[2])})
            self.assertEqual([desk.do("state k"), desk.do("claimed k"), desk.labels], [state, line, ["k"]])
            self.assertEqual(desk.do("forget k"), "-")
            self.assertEqual(desk.labels, [])

    def test_a_label_may_be_a_name(self):
        desk = desk_with("claim p atleast p 1", "claim w matches w 2")
        self.assertEqual([desk.labels, desk.names, desk.do("states")], [["p", "w"], sorted(TOLD), "p true, w false"])

    def test_states_of_what_is_kept_then(self):
        desk = desk_with("claim k inall p 2", "claim m stands f 0,1", "claim a matches w 1", "claim z atleast p 1")
        for line, answer, states in (
                ("drop w", "a gone", "a gone, k false, m true, z true"),
                ("pairs w 2 none", "-", "a gone, k false, m true, z true"),
                ("drop w", "-", "a gone, k false, m true, z true"),
                ("web w 2 none", "a false", "a false, k false, m true, z true"),
                ("tie w 0 1", "a true", "a true, k false, m true, z true"),
                ("drop p", "k gone, z gone", "a true, k gone, m true, z gone"),
                ("pairs p 2 1,0:0,1", "z true", "a true, k gone, m true, z true"),
                ("drop p", "z gone", "a true, k gone, m true, z gone"),
                ("pairs p 2 0,0:0,0;0,0:0,0;1,0:0,1", "k true, z true", "a true, k true, m true, z true"),
                ("drop f", "m gone", "a true, k true, m gone, z true"),
                ("frame f 0:0 none", "-", "a true, k true, m gone, z true"),
                ("drop f", "-", "a true, k true, m gone, z true"),
                ("room f 1 none", "-", "a true, k true, m gone, z true"),
                ("drop f", "-", "a true, k true, m gone, z true"),
                ("frame f 0:0;0:0 none", "m true", "a true, k true, m true, z true"),
                ("pair p 2 0,0 0,0", "k false, z false", "a true, k false, m true, z false"),
                ("forget k", "-", "a true, m true, z false"), ("pair p 0 1,0 0,1", "z true", "a true, m true, z true")):
            self.assertEqual(desk.do(line), answer, line)
            self.assertEqual(desk.do("states"), states)
            for label in desk.labels:
                self.assertIs(desk.claim_of(label) is None, desk.do("state " + label) == "gone")

    def test_a_label_that_is_noted_again_is_a_change(self):
        desk = desk_with("claim k atleast p 1")
        self.assertEqual(desk.do_all("forget k", "claim k atleast p 1", "forget k", "claim k below p 1", "states"),
                         ["-", "k true", "-", "k false", "k false"])


class DeedErrorsTest(DeskCase):

    def test_names_and_labels(self):
        desk = desk_with("claim k atleast p 1")
        for name in TOLD:
            for line in ("pairs {} 9 1:1", "web {} 9 9:9", "frame {} none 0:1", "room {} 9 none", "put {} x 1 1",
                         "without {} w 9",
                         "behind {} p p", "ofweb {} p", "offrame {} x", "threes {} 9 none", "houses {} 1 none",
                         "common {} x",
                         "joined {} p p", "shared {} x x"):
                self.fails_unchanged(desk, NameTaken, {"name": name}, line.format(name))
        for line in ("atleast x 9", "inall w 9", "matches p 1", "stands f 9", "below p 1"):
            self.fails_unchanged(desk, LabelTaken, {"label": "k"}, "claim k " + line)
        for line, name in (("put n x 1 1", "x"), ("put n w 1 1", "w"), ("without n r 9", "r"), ("behind n w x", "w"),
                           ("behind n p w", "w"),
                           ("behind n p x", "x"), ("behind n x x", "x"), ("ofweb n p", "p"), ("ofweb n f", "f"),
                           ("offrame n w", "w"),
                           ("offrame n r", "r"), ("common n s", "s"), ("joined n p x", "p"), ("joined n r w", "w"),
                           ("shared n r x", "x"),
                           ("shared n x r", "x"), ("pair w 0 1 1", "w"), ("pair x 9 1 1", "x"), ("tie p 0 1", "p"),
                           ("tie f 0 1", "f"),
                           ("cut f 9", "f"), ("cut x 9", "x"), ("drop x", "x"), ("drop k", "k"),
                           ("claim m atleast w 9", "w"),
                           ("claim m inall x 9", "x"), ("claim m below f 1", "f"), ("claim m spared r 0", "r"),
                           ("claim m matches p 1", "p"),
                           ("claim m short f 1", "f"), ("claim m stands p 9", "p"), ("claim m moves w -", "w"),
                           ("claim m stands k -", "k")):
            self.fails_unchanged(desk, UnknownName, {"value": name}, line)
        for label in ("x", "p", "kk"):
            self.fails_unchanged(desk, UnknownLabel, {"value": label}, "forget " + label)

    def test_errors_of_what_makes_it(self):
        desk = desk_with("room o 1 1", "room n0 1 none")
        one, half = Ratio(1), Ratio(1, 2)
        self.assertEqual(desk.do("behind b p n0"), "-")
        for line, error, value in (
                ("pairs n 9 1:1", InvalidSize, 9), ("pairs n 2 1:1/2", InvalidRows, [([one], [half])]),
                ("pairs n 2 1,1:1;-:1", InvalidRows, [([one, one], [one]), ([], [one])]),
                ("web n 99 0:1", InvalidSize, 99),
                ("web n 4 0:1;1:0", InvalidTies, [(0, 1), (1, 0)]), ("web n 4 0:4", InvalidTies, [(0, 4)]),
                ("frame n 0:1/2 0:1", InvalidBars, [(0, 1)]),
                ("frame n 0:0;0:0 1:0;0:1", InvalidBars, [(1, 0), (0, 1)]), ("room n 9 none", InvalidSize, 9),
                ("room n 16 none", InvalidSize, 16), ("room n 2 1/2;1,1", InvalidRows, [[half], [one, one]]),
                ("put n p 1 1,1,1", InvalidPair, ([one], [one] * 3)),
                ("put n p 1,1,1 -", InvalidPair, ([one] * 3, [])), ("without n p 3", InvalidPlace, 3),
                ("behind n p o", InvalidRoom, [[one]]),
                ("threes n 9 0:1:2", InvalidSize, 9), ("threes n 4 0:1:4", InvalidThrees, [(0, 1, 4)]),
                ("threes n 4 0:2:1", InvalidThrees, [(0, 2, 1)]),
                ("houses n 1;1,1 1;1", InvalidRows, [[one], [one, one]]), ("houses n 1;1 1", InvalidRows, [[one]]),
                ("houses n 1;1 1/2,1,1,1,1;1,1,1,1,1", InvalidRows, [[half] + [one] * 4, [one] * 5]),
                ("houses n " + ";".join("1" * 9) + " 1", InvalidRows, [[one]] * 9),
                ("joined n r o", InvalidRoom, [[one]]), ("shared n o s", InvalidRoom, S),
                ("pair p 3 1 1", InvalidPlace, 3),
                ("pair p 1 1/2 1,1,1", InvalidRows, [P.pair(0), ([half], [one] * 3), P.pair(2)]),
                ("tie w 1 1", InvalidTies, W.ties() + [(1, 1)]),
                ("tie w 3 4", InvalidTies, W.ties() + [(3, 4)]), ("tie w 1 0", InvalidTies, W.ties() + [(1, 0)]),
                ("cut w 3", InvalidPlace, 3),
                ("claim k atleast p 9", InvalidClaim, ("atleast", P, 9)),
                ("claim k below p 99", InvalidClaim, ("below", P, 99)),
                ("claim k inall p 3", InvalidClaim, ("inall", P, 3)),
                ("claim k innone p 8", InvalidClaim, ("innone", P, 8)),
                ("claim k matches w 9", InvalidClaim, ("matches", W, 9)),
                ("claim k stands f 1,0", InvalidClaim, ("stands", F, [1, 0])),
                ("claim k moves f 3", InvalidClaim, ("moves", F, [3])),
                ("claim k stands f 0,0", InvalidClaim, ("stands", F, [0, 0]))):
            self.fails_unchanged(desk, error, {"value": value}, line)
            with self.assertRaises(error) as held:
                desk.do(line)
            self.assertEqual(repr(held.exception.value), repr(value))

    def test_full_things(self):
        desk = desk_with("pairs e 1 " + ";".join(["1:0"] * 8), "web v 2 " + ";".join(["0:1"] * 8))
        self.fails_unchanged(desk, TooMany, {"what": "pairs", "limit": 8}, "put n e 1 1")
        self.fails_unchanged(desk, InvalidPair, {"value": ([Ratio(1)], [])}, "put n e 1 -")
        self.fails_unchanged(desk, InvalidTies, {"value": [(0, 1)] * 9}, "tie v 0 1")

    def test_an_error_does_not_lend_what_is_kept(self):
        desk = desk_with("room o 1 1")
        with self.assertRaises(InvalidRoom) as held:
            desk.do("behind n p o")
        held.exception.value.clear()
        self.assertEqual(desk["o"], (1, [[Ratio(1)]]))

    def test_twelve_names(self):
        desk = desk_with(*[f"pairs n{at} 1 1:1" for at in range(7)])
        self.assertEqual(len(desk.names), 12)
        for line in ("pairs n 1 1:1", "web n 1 none", "frame n none none", "room n 1 1", "put n n0 1 1",
                     "without n p 0", "behind n p r",
                     "ofweb n w", "offrame n f", "threes n 3 none", "houses n 1 1", "common n p", "joined n r s",
                     "shared n r s"):
            self.fails_unchanged(desk, TooMany, {"what": "names", "limit": 12}, line)
        self.fails_unchanged(desk, NameTaken, {"name": "p"}, "pairs p 1 1:1")
        self.fails_unchanged(desk, InvalidSize, {"value": 9}, "web n 9 none")
        self.fails_unchanged(desk, UnknownName, {"value": "n"}, "common m n")
        self.assertEqual(desk.do_all("pair p 0 1,1,1 1,1,1", "tie w 2 3", "cut w 0", "claim n0 atleast n0 1",
                                     "drop n0", "pairs n 1 none"),
                         ["-", "-", "-", "n0 false", "n0 gone", "-"])
        self.assertEqual(len(desk.names), 12)

    def test_twelve_labels(self):
        desk = desk_with(*[f"claim k{at} atleast p 1" for at in range(12)])
        self.assertEqual(desk.labels, sorted(f"k{at}" for at in range(12)))
        self.fails_unchanged(desk, TooMany, {"what": "labels", "limit": 12}, "claim k below p 1")
        self.fails_unchanged(desk, InvalidClaim, {"value": ("below", P, 9)}, "claim k below p 9")
        self.fails_unchanged(desk, LabelTaken, {"label": "k3"}, "claim k3 below p 9")
        self.assertEqual(desk.do_all("drop w", "forget k3", "claim k below p 1"), ["-", "-", "k false"])
        self.assertEqual(desk.do("states"),
                         ", ".join(f"{label} {'false' if label == 'k' else 'true'}" for label in desk.labels))

    def test_three_hundred_deeds(self):
        desk = desk_with(*["tie w 2 3", "cut w 3"] * 147, "claim k atleast p 1")
        self.assertEqual([len(desk), len(desk.lines())], [300, 300])
        for line in ("tie w 2 3", "drop p", "forget k", "claim m below p 1", "pairs n 1 1:1", "pair p 0 1,1,1 1,1,1"):
            self.fails_unchanged(desk, TooMany, {"what": "deeds", "limit": 300}, line)
        self.fails_unchanged(desk, InvalidTies, {"value": W.ties() + [(3, 2)]}, "tie w 3 2")
        self.assertEqual(desk.do_all("greatest p", "undo", "redo", "undo", "tie w 2 3", "names"),
                         ["1"] + ["claim k atleast p 1"] * 3 + ["-", "f p r s w"])
        self.assertEqual(len(desk), 300)

    def test_names_ahead_of_deeds(self):
        desk = desk_with(*[f"pairs n{at} 1 1:1" for at in range(7)], *[f"claim k{at} atleast p 1" for at in range(12)],
                         *["tie w 2 3", "cut w 3"] * 138)
        self.assertEqual(len(desk), 300)
        self.fails_unchanged(desk, TooMany, {"what": "names", "limit": 12}, "pairs n 1 1:1")
        self.fails_unchanged(desk, TooMany, {"what": "labels", "limit": 12}, "claim k atleast p 1")
        self.fails_unchanged(desk, TooMany, {"what": "deeds", "limit": 300}, "drop p")


if __name__ == "__main__":
    unittest.main()
