"""The sorts and the written forms of their values [91]."""

import random
import unittest

from pairsfree.errors import InvalidSort, InvalidValue
from pairsfree.frames import Frame
from pairsfree.pairs import Pairs
from pairsfree.ratios import Ratio
from pairsfree.texts import is_of_sort, sorts, written
from pairsfree.webs import Web
from tests.helper import ALL_SORTS, EDGES, Case, kinds, rationed, some_value, spoil, tupled

WRONG_SORTS = [None, True, 0, "", "Row", "row ", "rows", "texts", b"row", ["row"], ("row",), {}, set(), object(),
               Ratio(1),
               "numbers\n", ("numbers", "row")]
# By sort: values of other kinds, and beyond its bounds.
WRONG_VALUES = {
    "numbers": [[0] * 41, [True], [1, False], ["1"], [None], [[1]], 1, "1", range(2), {1: 1}, None, {1}, [1, 2j],
                iter([])],
    "row": [[0] * 9, tuple([0] * 9), [True], [1, False], ["1"], [None], [[1]], 1, "1", range(2), {}, None, {1},
            iter([])],
    "lot": [[8], [1, 0], [0, 0], [-1], [True], [False], [0, Ratio(1)], ["0"], [[0]], 0, "0", range(2), {0: 1}, {0},
            None,
            [0, 8], list(range(9)), iter([])],
    "parting": [[[]], [[0], []], [[1]], [[0], [2]], [[0], [0]], [[0, 0]], [[0, 1], [1]], [list(range(9))],
                [[True], [0]],
                [[0], [Ratio(1)]], [0], [[0], 1], "0", None, {}, {0: [0]}, [{0}], [range(1)], [["0"]], [[False]],
                [[[0]]],
                iter([]), [[place] for place in range(9)], [[-1, 0]]],
    "room": [[0, []], (0,), (0, [], []), (9, []), (-1, []), (True, [[1]]), (Ratio(1), []), ("1", []), (1, [[2]]),
             (1, [[1], [1]]), (2, [[0, 1], [1, 0]]), (2, [[1]]), (1, [[True]]), (0, [[]]), (1, None), (1, "1"),
             (None, []),
             (2, [1, 0]), [], (), None, {}, 0, (1, {0: [1]}), (1, [[0]]), (8, [[1] + [0] * 8])],
    "pairs": [(0, []), [([1], [0])], "Pairs(0, [])", None, 0, Web(0, []), Frame([], []), Pairs],
    "web": [(0, []), [(0, 1)], "Web(0, [])", None, 0, Pairs(0, []), Frame([], []), Web],
    "frame": [([], []), [(0, 0)], "Frame([], [])", None, 0, Pairs(0, []), Web(0, []), Frame],
}


def plain_number(number):
    number = rationed(number)
    return str(number.top) if number.bottom == 1 else str(number.top) + "/" + str(number.bottom)


def plain_lines(sort, value):
    """The lines of the written form, by the table."""
    def told(word, numbers):
        return " ".join([word, *[plain_number(number) for number in numbers]])
    if sort in ("numbers", "row", "lot"):
        return [told(sort, value)]
    if sort == "parting":
        return [sort] + [told("part", part) for part in sorted(sorted(part) for part in value)]
    if sort == "room":
        return [told(sort, [value[0]])] + [told("row", row) for row in value[1]]
    if sort == "pairs":
        lines = [[told("first", first), told("second", second)] for first, second in value.told()]
        return [told(sort, [value.size])] + [line for both in lines for line in both]
    if sort == "web":
        return [told(sort, [value.size])] + [told("tie", tie) for tie in value.ties()]
    return ["frame"] + [told("point", point) for point in value.points()] + [told("bar", bar) for bar in value.bars()]


def samples(sort, times=40):
    chance = random.Random("texts " + sort)
    return EDGES[sort] + [some_value(chance, sort) for _ in range(times)]


class SortsTest(Case):

    def test_sorts(self):
        self.assertEqual(sorts(), ALL_SORTS)
        self.assertIs(type(sorts()), list)
        spoil(sorts())
        sorts().clear()
        self.assertEqual(sorts(), ALL_SORTS)

    def test_values_of_the_sort(self):
        for sort in ALL_SORTS:
            for value in samples(sort):
                self.assertIs(is_of_sort(sort, value), True)
                if sort != "room":
                    self.assertIs(is_of_sort(sort, tupled(value)), True)
        self.assertEqual([is_of_sort("room", (1, ((1,),))), is_of_sort("room", (2, ([1, 0], (0, Ratio(2, 2)))))],
                         [True, True])

    def test_values_of_no_sort(self):
        for sort in ALL_SORTS:
            for value in WRONG_VALUES[sort]:
                with self.subTest(sort=sort, value=value):
                    self.assertIs(is_of_sort(sort, value), False)
                    self.fails(InvalidValue, {"value": value}, written, sort, value)

    def test_values_of_every_kind(self):
        for sort in ALL_SORTS:
            for value in kinds():
                self.assertIs(type(is_of_sort(sort, value)), bool)
                if is_of_sort(sort, value):
                    self.assertIn(type(value), {"pairs": (Pairs,), "room": (tuple,)}.get(sort, (list, tuple)))
        for value in kinds():
            wanted = type(value) in (list, tuple) and list(value) in ([], [0])
            if type(value) in (list, tuple) and len(value) == 1:
                wanted = type(value[0]) is int and value[0] in range(8)
            self.assertIs(is_of_sort("lot", value), wanted)

    def test_wrong_sorts(self):
        for call in (is_of_sort, written):
            self.refuses(call, {"sort": "row", "value": []}, {"sort": (InvalidSort, WRONG_SORTS)})
            for sort in WRONG_SORTS:
                self.fails(InvalidSort, {"value": sort}, call, sort, object())


class WrittenTest(Case):

    def test_as_the_table_tells(self):
        for sort in ALL_SORTS:
            for value in samples(sort):
                found = written(sort, value)
                self.assertIs(type(found), str)
                self.assertEqual(found, "".join(line + "\n" for line in plain_lines(sort, value)))

    def test_single(self):
        """Numbers count by their worth, partings as they are told, tuples as lists."""
        for sort, value, same in (("row", [1, Ratio(-3, 2), 0], (Ratio(2, 2), Ratio(-6, 4), Ratio(0))),
                                  ("numbers", [5], (Ratio(5),)), ("lot", [0, 3], (0, 3)),
                                  ("parting", [[0, 2], [1]], ((1,), (2, 0))), ("parting", [[0], [1]], [(1,), [0]]),
                                  ("room", (2, [[1, 2]]), (2, ((Ratio(1), Ratio(4, 2)),))),
                                  ("pairs", Pairs(1, [([1], [0])]), Pairs(1, [((Ratio(1),), [0])])),
                                  ("frame", Frame([(1, 2)], []), Frame(((Ratio(1), 2),), ()))):
            self.assertEqual(written(sort, value), written(sort, same))

    def test_as_they_stand(self):
        self.assertEqual([written("numbers", []), written("numbers", [0, -7, Ratio(-1, 3)]), written("row", ()),
                          written("lot", []), written("lot", [0, 7]), written("parting", []), written("room", (3, [])),
                          written("room", (0, [])), written("web", Web(4, [])), written("frame", Frame([], []))],
                         ["numbers\n", "numbers 0 -7 -1/3\n", "row\n", "lot\n", "lot 0 7\n", "parting\n", "room 3\n",
                          "room 0\n", "web 4\n", "frame\n"])
        self.assertEqual(written("pairs", Pairs(0, [([], [])])), "pairs 0\nfirst\nsecond\n")
        self.assertEqual(written("pairs", Pairs(2, [((1, 0), (Ratio(1, 2), -1))])),
                         "pairs 2\nfirst 1 0\nsecond 1/2 -1\n")
        self.assertEqual(written("web", Web(3, [(0, 2), (1, 2), (0, 2)])), "web 3\ntie 0 2\ntie 1 2\ntie 0 2\n")
        self.assertEqual(written("frame", Frame([(0, Ratio(-1, 2)), (3, 4)], [(0, 1)])),
                         "frame\npoint 0 -1/2\npoint 3 4\nbar 0 1\n")

    def test_long_numbers(self):
        long = Ratio(10 ** 1999 + 1, 10 ** 1999)
        self.assertEqual(written("row", [long]), f"row {10 ** 1999 + 1}/{10 ** 1999}\n")

    def test_arguments(self):
        for sort in ALL_SORTS:
            for value in samples(sort, 2):
                for call in (is_of_sort, written):
                    self.answers_alike(call, sort=sort, value=value)


if __name__ == "__main__":
    unittest.main()
