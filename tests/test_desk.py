"""The desk by itself: what it keeps and tells, deeds taken back and done again, several commands, copies and trials."""

import random
import unittest

from pairsfree.claims import is_true
from pairsfree.commands import is_deed
from pairsfree.desk import Desk, Trial, tried
from pairsfree.errors import (CommandFailed, InvalidCommand, InvalidLines, InvalidPaper, InvalidPlace, LimitError,
                              MissingError, NameTaken,
                              NothingToRedo, NothingToUndo, RowError, StateError, TooMany, UnknownLabel, UnknownName)
from pairsfree.ratios import Ratio
from pairsfree.webs import Web, web_pairs
from tests.helper import Case, again_lines, kinds, spoil, whole

FIRST = ["web w 5 0:1;1:2;0:2;2:3;3:4", "claim k matches w 2", "ofweb p w", "claim m inall p 3", "room r 2 1,1/2"]


def first_desk():
    desk = Desk()
    desk.do_all(*FIRST)
    return desk


def random_command(chance):
    """Some command of few names and labels; many of them fail."""
    name, other, label = chance.choice("abcd"), chance.choice("abcd"), chance.choice("klm")
    at, lot = chance.randint(0, 3), chance.choice(["-", "0", "0,1", "1"])
    row, line = chance.choice(["1,0", "0,1", "1,1", "0,0"]), chance.choice(["1,0", "0,2", "1,-1"])
    return chance.choice([
        f"pairs {name} 2 {row}:{line};{line}:0,1", f"web {name} 4 0:1;1:2;{at}:4", f"web {name} 4 0:1;1:2;2:3",
        f"frame {name} 0:0;1:0;0:1 0:1;0:2",
        f"room {name} 2 {row}", f"put {name} {other} {row} {line}", f"without {name} {other} {at}",
        f"behind {name} {other} {chance.choice('abcd')}",
        f"ofweb {name} {other}", f"offrame {name} {other}", f"threes {name} 4 0:1:2;1:2:3",
        f"houses {name} 1;2 {at};0", f"common {name} {other}",
        f"joined {name} {other} {chance.choice('abcd')}", f"shared {name} {other} {chance.choice('abcd')}",
        f"pair {name} {at} {row} {line}",
        f"tie {name} 0 {at}", f"cut {name} {at}", f"drop {name}", f"claim {label} atleast {name} {at}",
        f"claim {label} below {name} {at}",
        f"claim {label} inall {name} {at}", f"claim {label} spared {name} {at}", f"claim {label} insome {name} {at}",
        f"claim {label} innone {name} {at}",
        f"claim {label} matches {name} {at}", f"claim {label} short {name} {at}", f"claim {label} stands {name} {lot}",
        f"claim {label} moves {name} {lot}", f"forget {label}", "undo", "undo", "redo", "states", f"show {name}",
        f"greatest {name}", f"same {name} {other}"])


def plain_states(desk):
    """The states of all labels, by the claims as they are told now."""
    claims = {label: desk.claim_of(label) for label in desk.labels}
    return {label: "gone" if claim is None else "true" if is_true(claim) else "false" for label,
            claim in claims.items()}


class ToldTest(Case):

    def test_what_is_kept(self):
        desk = first_desk()
        self.assertEqual([desk.names, desk.labels, len(desk), desk.lines()], [["p", "r", "w"], ["k", "m"], 5, FIRST])
        self.assertEqual([desk["w"], desk["r"], desk["p"]], [Web(5, [(0, 1), (1, 2), (0, 2), (2, 3), (3, 4)]),
                                                             (2, [[Ratio(1), Ratio(1, 2)]]), web_pairs(desk["w"])])
        for value in ("p", "r", "w"):
            self.assertIs(value in desk, True)
        for value in kinds() + ["k", "m", "x", "P", "", "p ", ["p"], ("p",), {"p"}, {"p": 1}]:
            self.assertIs(value in desk, False)
            self.fails(UnknownName, {"value": value}, lambda: desk[value])

    def test_what_is_told_is_new(self):
        desk = first_desk()
        ahead = whole(desk)
        for told in (lambda: desk.names, lambda: desk.labels, lambda: desk["r"][1], desk.lines,
                     lambda: desk.do_all("names", "show w")):
            spoil(told())
            told().clear()
        self.assertEqual(whole(desk), ahead)
        desk.do("frame f 0:0;1:0 0:1")
        desk.do("claim s stands f 0,1")
        desk.claim_of("s")[2].clear()
        self.assertEqual([desk.claim_of("s")[2], desk.do("claimed s"), desk.do("state s")],
                         [[0, 1], "stands f 0,1", "true"])
        for name in ("names", "labels"):
            with self.assertRaises(AttributeError):
                setattr(desk, name, [])

    def test_claim_of(self):
        desk = first_desk()
        self.assertEqual([desk.claim_of("k"), desk.claim_of(label="m")],
                         [("matches", desk["w"], 2), ("inall", desk["p"], 3)])
        desk.do("drop w")
        self.assertIs(desk.claim_of("k"), None)
        desk.do("web w 3 0:2")
        self.assertEqual(desk.claim_of("k"), ("matches", Web(3, [(0, 2)]), 2))
        for value in kinds() + ["p", "w", "x", "K", "k ", ["k"]]:
            self.fails(UnknownLabel, {"value": value}, desk.claim_of, value)

    def test_no_iteration(self):
        with self.assertRaises(TypeError):
            iter(first_desk())

    def test_desks_are_apart(self):
        one, other = Desk(), Desk()
        one.do("pairs p 1 1:0")
        self.assertEqual([one.names, other.names, len(other)], [["p"], [], 0])


class BackAndAgainTest(Case):

    def test_each_behind_the_other(self):
        desk, wholes = Desk(), []
        for line in FIRST:
            wholes.append(whole(desk)[:-1])
            desk.do(line)
        wholes.append(whole(desk)[:-1])
        for at in reversed(range(len(FIRST))):
            self.assertEqual(desk.do("undo"), FIRST[at])
            self.assertEqual(whole(desk)[:-1], wholes[at])
            self.assertEqual(again_lines(desk), FIRST[at:])
        self.fails(NothingToUndo, {}, desk.do, "undo")
        for at in range(len(FIRST)):
            self.assertEqual(desk.do("redo"), FIRST[at])
            self.assertEqual(whole(desk)[:-1], wholes[at + 1])
            self.assertEqual(desk.do_all("undo", "redo"), [FIRST[at]] * 2)
        self.fails(NothingToRedo, {}, desk.do, "redo")
        self.assertEqual([desk.lines(), len(desk)], [FIRST, 5])

    def test_a_deed_between(self):
        desk = first_desk()
        desk.do_all("undo", "undo", "names", "states", "greatest p")
        self.assertEqual(again_lines(desk), FIRST[3:])
        self.fails(UnknownName, {"value": "x"}, desk.do, "drop x")
        desk.attach("k", [0, 3])
        self.assertEqual(again_lines(desk), FIRST[3:])
        self.assertEqual(desk.do("drop w"), "k gone")
        self.fails(NothingToRedo, {}, desk.do, "redo")
        self.assertEqual(desk.lines(), FIRST[:3] + ["drop w"])
        self.assertEqual([desk.do("undo"), desk.do("state k"), desk.do("redo"), desk.do("state k")],
                         ["drop w", "true", "drop w", "gone"])

    def test_nothing(self):
        desk = Desk()
        for command, error in (("undo", NothingToUndo), ("redo", NothingToRedo)):
            self.fails(error, {}, desk.do, command)
            self.fails(error, {}, desk, command)
        self.assertEqual([desk.lines(), len(desk)], [[], 0])

    def test_any_commands(self):
        """States are those of the claims, answers tell their changes, and the lines do it all again."""
        failed = done = 0
        for seed in range(12):
            chance, desk = random.Random(seed), Desk()
            for _ in range(120):
                command, ahead, states = random_command(chance), whole(desk), plain_states(desk)
                try:
                    answer = desk.do(command)
                    done += 1
                except (RowError, MissingError, StateError, LimitError):
                    self.assertEqual(whole(desk), ahead)
                    failed += 1
                    continue
                told = plain_states(desk)
                self.assertEqual(desk.do("states"),
                                 ", ".join(f"{label} {told[label]}" for label in sorted(told)) or "-")
                if is_deed(command):
                    changed = [f"{label} {told[label]}" for label in sorted(told) if states.get(label) != told[label]]
                    self.assertEqual(answer, ", ".join(changed) or "-")
                    self.assertEqual([desk.lines()[-1], again_lines(desk)], [command, []])
                    self.assertEqual(desk.do_all("undo", "redo"), [command] * 2)
                elif command not in ("undo", "redo"):
                    self.assertEqual(whole(desk), ahead)
            self.assertEqual(whole(Desk.again(desk.lines()))[:-1], whole(desk)[:-1])
        self.assertGreater(min(failed, done), 300)


class SeveralTest(Case):

    def test_do_all(self):
        desk = Desk()
        self.assertEqual([desk.do_all(), desk.attempt()], [[], []])
        self.assertEqual(desk.do_all(*FIRST, "states", "undo"), ["-", "k true", "-", "m false", "-", "k true, m false",
                                                                 FIRST[-1]])
        self.assertEqual(desk.lines(), FIRST[:-1])

    def test_if_one_fails(self):
        desk = first_desk()
        desk.do_all("cut w 0", "undo")
        desk.attach("k", [0, 3])
        ahead = whole(desk)
        for commands, position, error in (
                (["x"], 0, InvalidCommand), (["drop w", "undo", "undo", "cut w 9"], 3, InvalidPlace),
                (["drop p", "drop p"], 1, UnknownName),
                (["redo", "redo"], 1, NothingToRedo), (["undo"] * 6, 5, NothingToUndo),
                (["drop w", None, "x"], 1, InvalidCommand),
                (["cut w 0", "state x"], 1, UnknownLabel), (["forget k", "claim k short w 1", "pairs p 1 none",
                                                             "drop p"], 2, NameTaken),
                ([f"pairs n{at} 0 none" for at in range(12)], 9, TooMany),
                (["undo", "drop p", "redo"], 2, NothingToRedo)):
            for call in (desk.do_all, desk.attempt):
                with self.assertRaises(CommandFailed) as held:
                    call(*commands)
                self.assertIs(held.exception.__class__, CommandFailed)
                self.assertEqual(held.exception.position, position)
                self.assertIs(held.exception.__cause__.__class__, error)
                self.assertEqual(whole(desk), ahead)

    def test_attempt(self):
        desk = first_desk()
        desk.do_all("cut w 0", "undo")
        desk.attach("k", [0, 3])
        ahead = whole(desk)
        self.assertEqual(desk.attempt("drop w", "undo", "undo", "names", "pairs q 1 1:0", "names"),
                         ["k gone", "drop w", "room r 2 1,1/2", "p w", "-", "p q w"])
        self.assertEqual(whole(desk), ahead)
        self.assertEqual(desk.attempt("redo"), ["cut w 0"])
        self.assertEqual(whole(desk), ahead)

    def test_copies(self):
        desk = first_desk()
        desk.attach("k", [0, 3])
        desk.do("undo")
        copied = desk.copy()
        self.assertIs(copied.__class__, Desk)
        self.assertIsNot(copied, desk)
        ahead = whole(desk)
        self.assertEqual(whole(copied), ahead)
        copied.do_all("redo", "drop w", "pairs q 1 1:0")
        self.assertEqual(whole(desk), ahead)
        behind = whole(copied)
        desk.do_all("drop p", "claim a short w 1")
        desk.attach("k", [1, 4])
        self.assertEqual(whole(copied), behind)
        self.assertEqual([copied.fits("k"), desk.fits("k")], [False, True])
        self.assertEqual(copied.do_all("undo", "undo", "undo"), ["pairs q 1 1:0", "drop w", FIRST[-1]])
        self.assertEqual([copied.fits("k"), whole(copied)[:-1]], [True, ahead[:-1]])
        self.assertEqual(again_lines(copied), [FIRST[-1], "drop w", "pairs q 1 1:0"])

    def test_again(self):
        desk = first_desk()
        desk.do_all("cut w 4", "cut w 3", "undo")
        for lines in (desk.lines(), tuple(desk.lines())):
            found = Desk.again(lines)
            self.assertIs(found.__class__, Desk)
            self.assertEqual(whole(found)[:-1], whole(desk)[:-1])
            self.assertEqual(again_lines(found), [])
            self.assertEqual(list(lines), desk.lines())
        self.assertEqual(whole(Desk.again(lines=FIRST)), whole(first_desk()))
        self.assertEqual([len(Desk.again([])), Desk.again(()).names], [0, []])

    def test_again_of_what_is_no_list_of_deeds(self):
        for value in kinds() + ["drop p", {"drop p": 1}, {"names"}]:
            if not isinstance(value, (list, tuple)):
                self.fails(InvalidLines, {"position": None}, Desk.again, value)
        for lines, position in ((["undo"], 0), (FIRST + ["names"], 5), ([None], 0), ([FIRST[0], FIRST[0] + " "], 1),
                                ([[FIRST[0]]], 0),
                                (FIRST[:2] + ["drop x", "redo", "x"], 3), (("drop x", 1), 1),
                                (FIRST + ["", "states"], 5)):
            self.fails(InvalidLines, {"position": position}, Desk.again, lines)
        for lines, position, error in ((["drop x"], 0, UnknownName), (FIRST + FIRST[:1], 5, NameTaken),
                                       (tuple(FIRST) + ("cut w 9",), 5, InvalidPlace),
                                       (["web w 2 none"] + ["tie w 0 1", "cut w 0"] * 150, 300, TooMany)):
            with self.assertRaises(CommandFailed) as held:
                Desk.again(lines)
            self.assertEqual((held.exception.position, held.exception.__cause__.__class__), (position, error))


class TrialTest(Case):

    def changed(self, desk):
        """All that can be changed of a desk."""
        desk.do_all("undo", "drop w", "claim a atleast p 1", "pairs q 1 1:0", "undo", "redo", "undo")
        desk.attach("a", [0])
        return whole(desk)

    def test_all_is_as_it_was(self):
        desk = first_desk()
        desk.do_all("cut w 0", "undo")
        desk.attach("k", [0, 3])
        ahead, behind = whole(desk), self.changed(desk.copy())
        trial = Trial(desk)
        for _ in range(2):
            with trial as held:
                self.assertIs(held, desk)
                self.assertEqual(self.changed(held), behind)
            self.assertEqual(whole(desk), ahead)
        with Trial(desk=desk):
            pass
        self.assertEqual(whole(desk), ahead)

    def test_as_it_was_ahead_of_the_block(self):
        desk = first_desk()
        trial = Trial(desk)
        desk.do("drop p")
        ahead = whole(desk)
        with trial as held:
            held.do("undo")
        self.assertEqual(whole(desk), ahead)

    def test_an_error_goes_on(self):
        desk = first_desk()
        ahead = whole(desk)
        for error in (ValueError("a"), KeyError("b"), UnknownName("c"), ZeroDivisionError()):
            with self.assertRaises(error.__class__) as held:
                with Trial(desk) as inner:
                    self.changed(inner)
                    raise error
            self.assertIs(held.exception, error)
            self.assertEqual(whole(desk), ahead)
        with self.assertRaises(UnknownName):
            with Trial(desk) as inner:
                inner.do("drop p")
                inner.do("drop p")
        self.assertEqual(whole(desk), ahead)

    def test_one_within_another(self):
        desk = first_desk()
        ahead = whole(desk)
        with Trial(desk) as outer:
            outer.do("drop p")
            between = whole(outer)
            with Trial(outer) as inner:
                inner.do_all("drop w", "undo", "undo")
            self.assertEqual(whole(desk), between)
        self.assertEqual(whole(desk), ahead)

    def test_tried(self):
        desk = first_desk()
        ahead = whole(desk)
        self.assertEqual(tried(desk, self.changed), self.changed(first_desk()))
        self.assertEqual(whole(desk), ahead)
        self.assertIs(tried(desk=desk, action=lambda held: held), desk)
        self.assertEqual(tried(desk, lambda held: held.do_all("drop w", "names")), ["k gone", "p r"])
        self.assertIs(tried(desk, lambda held: None), None)
        self.fails(UnknownName, {"value": "x"}, tried, desk, lambda held: held.do_all("drop w") and held.do("drop x"))
        self.assertEqual(whole(desk), ahead)


class PapersTest(Case):

    def test_attached(self):
        desk = first_desk()
        self.assertIs(desk.fits("k"), False)
        self.assertIs(desk.attach("k", [0, 3]), None)
        self.assertEqual([desk.fits("k"), desk.fits(label="m")], [True, False])
        self.assertIs(desk.attach(label="k", paper=(0, 4)), None)
        self.assertIs(desk.attach("m", ([0, 4], [], [[0, 1, 2, 3, 4]])), None)
        self.assertEqual([desk.fits("k"), desk.fits("m")], [True, True])
        self.assertEqual([desk.lines(), len(desk), again_lines(desk)], [FIRST, 5, []])

    def test_wrong_papers(self):
        desk = first_desk()
        desk.attach("k", [0, 3])
        ahead = whole(desk)
        for value in kinds() + [[0], [0, 1], [3, 0], ([0, 3],), "0,3", [0, Ratio(3)], [3], [2]]:
            self.fails(InvalidPaper, {"value": value}, desk.attach, "k", value)
            self.assertEqual(whole(desk), ahead)
        desk.do("drop w")
        for value in ([0, 3], [], None):
            self.fails(InvalidPaper, {"value": value}, desk.attach, "k", value)
        desk.do("undo")
        self.assertIs(desk.fits("k"), True)
        for value in kinds() + ["w", "x", "K", ["k"]]:
            self.fails(UnknownLabel, {"value": value}, desk.attach, value, [0, 3])
            self.fails(UnknownLabel, {"value": value}, desk.attach, value, None)
            self.fails(UnknownLabel, {"value": value}, desk.fits, value)

    def test_of_the_claim_or_of_its_contrary(self):
        desk = first_desk()
        desk.do_all("claim s short w 2", "claim b below p 3", "frame f 0:0;1:0;0:1 0:1;0:2;1:2", "claim t stands f 0",
                    "claim z innone p 0")
        for label, paper in (("s", [0, 3]), ("b", ([[1, 0, 0, 0, 0]], [[0], [1, 2, 3, 4]])),
                             ("b", ([], ((0, 1, 2, 3, 4),))),
                             ("t", [0, 0, 0, 2, -2, 0]), ("z", ([0, 3], [], [[0, 1, 2, 3, 4]]))):
            if label == "b" and paper[0]:
                self.fails(InvalidPaper, {"value": paper}, desk.attach, label, paper)
            else:
                desk.attach(label, paper)
                self.assertIs(desk.fits(label), True)
        self.assertEqual(desk.do("states"), "b true, k true, m false, s false, t false, z false")
        self.assertEqual(desk.do("cut w 3"), "k true" if desk.do("state k") == "false" else "-")

    def test_kept_for_what_it_was_attached_for(self):
        """A paper of the contrary does not serve for the claim, nor the other way, when states change."""
        desk = Desk()
        desk.do_all("web w 4 0:1;0:2;0:3", "claim k matches w 2")
        desk.attach("k", [0])
        self.assertIs(desk.fits("k"), True)
        self.assertEqual(desk.do("tie w 2 3"), "k true")
        self.assertIs(desk.fits("k"), False)
        self.fails(InvalidPaper, {"value": [0]}, desk.attach, "k", [0])
        desk.attach("k", [0, 3])
        self.assertIs(desk.fits("k"), True)
        desk.do("cut w 3")
        self.assertIs(desk.fits("k"), False)
        desk.do("undo")
        self.assertIs(desk.fits("k"), True)

    def test_it_stays_whatever_comes(self):
        desk = first_desk()
        desk.attach("k", [0, 3])
        for line, fits in (("cut w 4", True), ("cut w 3", False), ("undo", True), ("drop w", False),
                           ("web w 4 0:1;2:3", False),
                           ("tie w 0 2", False), ("tie w 0 3", False), ("drop w", False),
                           ("web w 4 0:1;0:2;0:3;2:3", True),
                           ("forget m", True), ("undo", True)):
            desk.do(line)
            self.assertIs(desk.fits("k"), fits, line)

    def test_labels_noted_again(self):
        desk = first_desk()
        desk.attach("k", [0, 3])
        desk.do("forget k")
        self.fails(UnknownLabel, {"value": "k"}, desk.fits, "k")
        for line, fits in (("claim k matches w 1", False), ("claim k short w 2", False),
                           ("claim k atleast p 2", False), ("claim k matches w 2", True)):
            desk.do(line)
            self.assertIs(desk.fits("k"), fits, line)
            desk.do("forget k")
        desk.do_all("undo", "undo", "undo")
        self.assertEqual([desk.do("claimed k"), desk.fits("k")], ["atleast p 2", False])
        desk.do_all(*["undo"] * 7)
        self.assertEqual([desk.do("claimed k"), desk.fits("k")], ["matches w 2", True])

    def test_another_one_takes_its_place(self):
        desk = first_desk()
        desk.attach("k", [0, 3])
        desk.do_all("forget k", "claim k atleast p 2")
        desk.attach("k", [0, 4])
        desk.do_all("undo", "undo")
        self.assertEqual([desk.do("claimed k"), desk.fits("k")], ["matches w 2", False])
        desk.do_all("redo", "redo")
        self.assertIs(desk.fits("k"), True)

    def test_a_paper_is_copied(self):
        desk = first_desk()
        desk.do_all("claim b below p 3")
        for label, paper in (("k", [0, 3]), ("b", ([], [[0, 1, 2, 3, 4]]))):
            desk.attach(label, paper)
            spoil(paper)
            self.assertIs(desk.fits(label), True)

    def test_gone(self):
        desk = first_desk()
        desk.attach("m", ([0, 4], [], [[0, 1, 2, 3, 4]]))
        desk.do("drop p")
        self.assertIs(desk.fits("m"), False)
        desk.do("undo")
        self.assertIs(desk.fits("m"), True)

    def test_not_taken_back(self):
        desk = first_desk()
        desk.attach("k", [0, 3])
        desk.do_all("undo", "undo", "undo")
        self.assertIs(desk.fits("k"), True)
        desk.do_all("undo", "redo")
        self.assertIs(desk.fits("k"), True)
        self.assertIs(Desk.again(desk.lines()).fits("k"), False)


if __name__ == "__main__":
    unittest.main()
