"""What the commands tell that are no deeds: the second table of [98]."""

import random
import unittest

from pairsfree.desk import Desk
from pairsfree.engine import first_lot
from pairsfree.errors import (InvalidCommand, InvalidLot, InvalidParting, InvalidPlaces, InvalidRoom, InvalidRow,
                              UnknownLabel, UnknownName)
from pairsfree.frames import Frame
from pairsfree.lots import greatest, is_free, lot_rank
from pairsfree.pairs import Pairs
from pairsfree.pins import fewest_pins
from pairsfree.ratios import Ratio
from pairsfree.rooms import is_held
from pairsfree.webs import barrier_worth, left_places, matching_number
from pairsfree.which import in_all, in_none, in_some
from tests.helper import Case, kinds, random_frame, random_pairs, random_room, random_rows, rationed, some_web, whole

FIRST = ["pairs p 4 1,0,0,0:0,1,0,0;0,0,1,0:0,0,0,1;1,0,0,0:0,0,1,0", "web w 5 0:1;1:2;0:2;2:3;3:4",
         "frame f 0:0;1:0;0:1/2 0:1;0:2;1:2",
         "room r 4 2,0,0,1", "pairs e 0 none", "web v 0 none", "frame g none none", "room o 0 none",
         "room s 3 1,0,-1/3;0,2,0"]


def word_of(numbers):
    return ",".join(str(number) for number in numbers) or "-"


def words_of(thing):
    """The thing as the commands that keep it are told, behind its name."""
    if isinstance(thing, Pairs):
        return f"pairs {{}} {thing.size} " + (";".join(word_of(a) + ":" + word_of(b) for a,
                                                       b in thing.told()) or "none")
    if isinstance(thing, tuple):
        return f"room {{}} {thing[0]} " + (";".join(word_of(row) for row in thing[1]) or "none")
    if isinstance(thing, Frame):
        parts = [";".join(f"{a}:{b}" for a, b in part) or "none" for part in (thing.points(), thing.bars())]
        return "frame {} " + " ".join(parts)
    return f"web {{}} {thing.size} " + (";".join(f"{i}:{j}" for i, j in thing.ties()) or "none")


class AnswersTest(Case):

    def desk(self):
        desk = Desk()
        desk.do_all(*FIRST)
        return desk

    def test_each_command(self):
        desk = self.desk()
        desk.do_all("claim k atleast p 2", "claim b short w 2", "claim c stands f 0,2", "drop v", "claim z stands g -",
                    "drop g")
        desk.do_all("undo", "redo", "undo", "undo", "redo", "redo")
        ahead = whole(desk)
        for line, answer in (
                ("state k", "true"), ("state b", "false"), ("state z", "gone"),
                ("states", "b false, c true, k true, z gone"),
                ("claimed k", "atleast p 2"), ("claimed c", "stands f 0,2"), ("claimed z", "stands g -"),
                ("names", "e f o p r s w"),
                ("show p", "4 1,0,0,0:0,1,0,0;0,0,1,0:0,0,0,1;1,0,0,0:0,0,1,0"), ("show e", "0 none"),
                ("show w", "5 0:1;1:2;0:2;2:3;3:4"),
                ("show f", "0:0;1:0;0:1/2 0:1;0:2;1:2"), ("show r", "4 1,0,0,1/2"), ("show o", "0 none"),
                ("show s", "3 1,0,-1/3;0,1,0"),
                ("many p", "3"), ("many e", "0"), ("many w", "5"), ("many f", "3"), ("many r", "1"), ("many o", "0"),
                ("many s", "2"),
                ("greatest p", "2"), ("greatest e", "0"), ("lot p", "0,1"), ("lot e", "-"), ("free p 0,1", "yes"),
                ("free p -", "yes"),
                ("free p 0,2", "no"), ("rank p 0,2", "3"), ("rank p -", "0"), ("rank e -", "0"), ("all p", "0,1"),
                ("some p", "0,1"),
                ("none p", "2"), ("all e", "-"), ("some e", "-"), ("none e", "-"), ("worth p r 0;2,1", "3"),
                ("worth p o 0,1,2", "2"),
                ("worth e o none", "0"), ("matching w", "2"), ("left w", "0,1,2,4"), ("barrier w 3", "2"),
                ("barrier w -", "2"),
                ("barrier w 0", "3"), ("fewest f", "2"), ("holds r 4,0,0,2", "yes"), ("holds r 4,0,0,1", "no"),
                ("holds r 0,0,0,0", "yes"),
                ("holds o -", "yes"), ("same p p", "yes"), ("same p e", "no"), ("same r s", "no"), ("same r o", "no"),
                ("same w w", "yes"),
                ("same f f", "yes")):
            for call in (desk.do, desk):
                self.assertEqual(call(line), answer, line)
                self.assertIs(type(call(command=line)), str)
        self.assertEqual(whole(desk), ahead)

    def test_an_empty_desk(self):
        desk = Desk()
        self.assertEqual([desk.do("states"), desk.do("names"), desk.names, desk.labels, len(desk), desk.lines()],
                         ["-", "-", [], [], 0, []])

    def test_empty_things(self):
        desk = Desk()
        desk.do_all("pairs e 0 none", "web v 0 none", "frame g none none", "room o 8 none", "pairs d 0 -:-;-:-",
                    "frame h 1:2 none",
                    "room q 0 none", "web x 8 none")
        self.assertEqual(desk.do_all("show v", "show g", "show o", "show d", "show h", "show q", "show x", "many v",
                                     "many g", "many h",
                                     "many d", "left v", "left x", "barrier v -", "matching v", "fewest g", "fewest h",
                                     "none d", "same o q",
                                     "same v x", "same g h", "same e d", "holds o 0,0,0,0,0,0,0,1"),
                         ["0 none", "none none", "8 none", "0 -:-;-:-", "1:2 none", "0 none", "8 none", "0", "0", "1",
                          "2", "-",
                          "0,1,2,3,4,5,6,7", "0", "0", "0", "1", "0,1", "no", "no", "no", "no", "no"])

    def test_equal_things(self):
        desk = self.desk()
        desk.do_all("pairs q 4 1,0,0,0:0,1,0,0;0,0,1,0:0,0,0,1;1,0,0,0:0,0,1,0", "room t 4 -4,0,0,-2;2,0,0,1",
                    "cut w 4")
        self.assertEqual(desk.do_all("same p q", "same q p", "same r t", "same t r"), ["yes"] * 4)
        desk.do("pair q 0 1,0,0,0 0,2,0,0")
        self.assertEqual(desk.do("same p q"), "no")

    def test_as_the_functions_tell(self):
        chance = random.Random(181)
        for _ in range(25):
            size = chance.randint(1, 6)
            pairs, web, frame = random_pairs(chance, size,
                                             chance.randint(1, 6)), some_web(chance), random_frame(chance, 3, 4)
            room, row = random_room(chance, size), random_rows(chance, size, 1)[0]
            things, desk = {"p": pairs, "w": web, "f": frame, "r": (size, room)}, Desk()
            for name, thing in things.items():
                line = words_of(thing).format(name)
                desk.do(line)
                self.assertEqual(desk.do("show " + name), line.split(" ", 2)[2])
                self.assertEqual(desk[name], thing)
            lot = sorted(chance.sample(range(pairs.many), chance.randint(0, pairs.many)))
            left = sorted(chance.sample(range(web.size), chance.randint(0, web.size)))
            for line, wanted in (
                    ("greatest p", str(greatest(pairs))), ("lot p", word_of(first_lot(pairs))),
                    ("all p", word_of(in_all(pairs))),
                    ("some p", word_of(in_some(pairs))), ("none p", word_of(in_none(pairs))),
                    ("left w", word_of(left_places(web))),
                    ("free p " + word_of(lot), "yes" if is_free(pairs, lot) else "no"),
                    ("rank p " + word_of(lot), str(lot_rank(pairs, lot))),
                    ("matching w", str(matching_number(web))),
                    ("barrier w " + word_of(left), str(barrier_worth(web, left))),
                    ("fewest f", str(fewest_pins(frame))), ("many p", str(pairs.many)), ("many w", str(web.many)),
                    ("many f", "3"), ("many r", str(len(room))),
                    ("holds r " + word_of(rationed(row)), "yes" if is_held(size, room, row) else "no")):
                self.assertEqual(desk.do(line), wanted, line)

    def test_long_numbers_are_told(self):
        desk = Desk()
        desk.do("room r 2 999999,1/999998")
        self.assertEqual(desk.do("show r"), f"2 1,1/{999999 * 999998}")


class AnswerErrorsTest(Case):

    def fails_unchanged(self, desk, error, told, command):
        ahead = whole(desk)
        for call in (desk.do, desk):
            self.fails(error, told, call, command)
        self.assertEqual(whole(desk), ahead)

    def test_errors(self):
        desk = Desk()
        desk.do_all(*FIRST, "claim k atleast p 2")
        for line in ("show x", "many x", "greatest x", "lot x", "free x 9", "rank x 9", "all x", "some x", "none x",
                     "worth x y 9", "matching x",
                     "left x", "barrier x 9", "fewest x", "holds x 1", "same x y", "worth p x 9", "same p x",
                     "worth x r 9", "same x p"):
            self.fails_unchanged(desk, UnknownName, {"value": "x"}, line)
        for line in ("greatest w", "lot w", "free w -", "rank w -", "all w", "some w", "none w", "fewest w",
                     "holds w 1", "worth p w none", "same p w",
                     "same f w", "same r w"):
            self.fails_unchanged(desk, UnknownName, {"value": "w"}, line)
        for line in ("matching p", "left p", "barrier p 9", "fewest p", "holds p 1", "same w p", "worth p p none",
                     "same r p"):
            self.fails_unchanged(desk, UnknownName, {"value": "p"}, line)
        for line in ("greatest r", "left f", "matching f", "fewest r", "all f"):
            self.fails_unchanged(desk, UnknownName, {"value": line[-1]}, line)
        for line in ("state x", "claimed x", "state p", "claimed w"):
            self.fails_unchanged(desk, UnknownLabel, {"value": line[-1]}, line)
        one = Ratio(1)
        for line, error, value in (
                ("free p 3", InvalidLot, [3]), ("free p 1,0", InvalidLot, [1, 0]), ("rank p 0,0", InvalidLot, [0, 0]),
                ("rank e 0", InvalidLot, [0]),
                ("worth p s 9", InvalidRoom, [[one, 0, Ratio(-1, 3)], [0, one, 0]]),
                ("worth p r 0,1", InvalidParting, [[0, 1]]),
                ("worth p r 0;1;2;-", InvalidParting, [[0], [1], [2], []]), ("worth p r none", InvalidParting, []),
                ("worth p r 0,1,2,3", InvalidParting, [[0, 1, 2, 3]]), ("barrier w 5", InvalidPlaces, [5]),
                ("barrier w 1,0", InvalidPlaces, [1, 0]),
                ("barrier w 0,0", InvalidPlaces, [0, 0]), ("holds r 1", InvalidRow, [one]),
                ("holds r -", InvalidRow, []), ("holds o 1", InvalidRow, [one])):
            value = [rationed(part) for part in value] if error is InvalidRoom else value
            self.fails_unchanged(desk, error, {"value": value}, line)
            with self.assertRaises(error) as held:
                desk.do(line)
            self.assertEqual(repr(held.exception.value), repr(value))

    def test_no_commands(self):
        desk = Desk()
        desk.do_all(*FIRST)
        for value in kinds() + ["", "names ", " names", "name", "show", "show p w", "show P", "free p", "free p 100",
                                "undo 1", "redo p",
                                "holds r 1/1", "pairs n 2 1", "claim k p atleast 1", b"names", ["names"], ("undo",)]:
            if not isinstance(value, type(iter([]))):
                self.fails_unchanged(desk, InvalidCommand, {"value": value}, value)


if __name__ == "__main__":
    unittest.main()
