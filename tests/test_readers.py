"""Written forms read, and the wrong lines of other strings [92]."""

import random
import re
import unittest

from pairsfree.errors import InvalidText
from pairsfree.frames import Frame
from pairsfree.pairs import Pairs
from pairsfree.ratios import Ratio
from pairsfree.readers import read
from pairsfree.texts import is_of_sort, written
from pairsfree.webs import Web
from tests.helper import ALL_SORTS, EDGES, Case, kinds, rationed, some_value, spoil

NUMBER = r"(?:0|-?[1-9][0-9]*|-?[1-9][0-9]*/[1-9][0-9]*)"
COUNT = r"(?:0|[1-9][0-9]*)"
LINES = {"first": NUMBER, "second": NUMBER, "row": NUMBER, "numbers": NUMBER, "point": NUMBER, "lot": COUNT,
         "part": COUNT,
         "room": COUNT, "pairs": COUNT, "web": COUNT, "tie": COUNT, "bar": COUNT, "parting": "(?!)", "frame": "(?!)"}


def parsed_number(word):
    above, _, below = word.partition("/")
    return Ratio(int(above), int(below or "1"))


def parsed_line(line):
    """The word of the line and its numbers; None if it is like no line."""
    word = line.split(" ")[0]
    if word not in LINES or not re.fullmatch(f"{word}(?: {LINES[word]})*", line):
        return None
    return word, [parsed_number(part) for part in line.split(" ")[1:]]


def made_of(lines):
    """The sort and the value that the lines would be of, if they are those of a value at all; None else."""
    found = [parsed_line(line) for line in lines]
    if None in found or not found:
        return None
    sort, numbers = found[0]
    whole = [[number.top for number in row] for _, row in found]
    try:
        value = {
            "numbers": lambda: numbers, "row": lambda: numbers, "lot": lambda: whole[0], "parting": lambda: whole[1:],
            "room": lambda: (whole[0][0], [row for _, row in found[1:]]),
            "pairs": lambda: Pairs(whole[0][0], [(found[at][1], found[at + 1][1]) for at in range(1, len(found), 2)]),
            "web": lambda: Web(whole[0][0], [tuple(tie) for tie in whole[1:]]),
            "frame": lambda: Frame([tuple(point) for word, point in found if word == "point"],
                                   [tuple(row) for (word, _), row in zip(found, whole) if word == "bar"])}[sort]()
    except (ValueError, IndexError, KeyError):
        return None
    return (sort, value) if is_of_sort(sort, value) else None


def is_form(lines):
    """Whether the lines, each with its line feed, are a written form."""
    made = made_of(lines)
    return made is not None and written(*made) == "".join(line + "\n" for line in lines)


def ended(lines):
    """The lines with what lacks behind them, as far as only lines lack."""
    if lines and lines[0].startswith("pairs ") and len(lines) % 2 == 0:
        return lines + ["second" + " 0" * (len(lines[-1].split(" ")) - 1)]
    if lines and lines[0] == "parting":
        parts = [[int(word) for word in line.split(" ")[1:] if re.fullmatch(COUNT, word)] for line in lines[1:]]
        places = [place for part in parts for place in part]
        left = [place for place in range(max(places, default=0)) if place not in places]
        return lines + ([" ".join(["part", *[str(place) for place in left]])] if left else [])
    return lines


def plain_wrong_line(text):
    """The wrong line of the string; None if it is a written form."""
    *lines, rest = text.split("\n")
    for at in range(len(lines)):
        if not is_form(ended(lines[:at + 1])):
            return at + 1
    return None if lines and not rest and is_form(lines) else len(lines) + 1


def spoilt_line(chance, line):
    """The line, changed a little."""
    words = line.split(" ")
    at = chance.randrange(len(words))
    other = chance.choice(["0", "1", "-1", "01", "-0", "2/4", "1/2", "7/1", "8", "9", "", "x", "+1", "1/-2", "1/0",
                           "-3/2",
                           "first", "second", "row", "part", "tie", "bar", "point", "1.0", "--1", "1/", "/2", "0/2",
                           "2/6"])
    return chance.choice([" ".join(words[:at] + words[at + 1:]), " ".join(words[:at] + [other] + words[at + 1:]),
                          " ".join(words[:at] + [words[at]] + words[at:]), " ".join(words + [other]), line + " ",
                          " " + line, line.upper(), line.replace(" ", "  ", 1), ""])


def spoilt_text(chance, text):
    """The text with a line changed, left out, doubled, moved or cut."""
    lines = text.split("\n")
    at = chance.randrange(len(lines))
    other = chance.choice(lines)
    return "\n".join(chance.choice([
        lines[:at] + lines[at + 1:], lines[:at] + [lines[at]] + lines[at:],
        lines[:at] + [spoilt_line(chance, lines[at])]
        + lines[at + 1:], lines[:at] + [other] + lines[at:], lines[:at], lines[:at + 1], lines + [other],
        lines + ["x"]]))


class ReadTest(Case):

    def reads(self, sort, value):
        text = written(sort, value)
        found = read(text)
        self.assertIs(type(found), tuple)
        self.assertEqual(found[0], sort)
        self.assertEqual(repr(found[1]), repr(value))
        self.assertEqual(written(*found), text)

    def test_what_was_written(self):
        for sort in ALL_SORTS:
            chance = random.Random("read " + sort)
            for value in EDGES[sort]:
                self.reads(sort, value)
            for _ in range(60):
                value = some_value(chance, sort)
                if sort in ("numbers", "row"):
                    value = rationed(value)
                if sort == "parting":
                    value = sorted(sorted(part) for part in value)
                self.reads(sort, value)

    def test_new_each_time(self):
        for sort in ALL_SORTS:
            text = written(sort, EDGES[sort][-1])
            answer = repr(read(text))
            spoil(read(text))
            self.assertEqual(repr(read(text=text)), answer)

    def test_numbers_longer_than_any_string(self):
        for text in ("row " + "9" * 5000 + "\n", "row 1/" + "9" * 5000 + "\n", "lot " + "9" * 5000 + "\n"):
            self.fails(InvalidText, {"line": 1}, read, text)
        self.assertEqual(read("row " + "9" * 3990 + "\n"), ("row", [Ratio(10 ** 3990 - 1)]))

    def test_long_numbers(self):
        long = Ratio(-(10 ** 1999) - 1, 10 ** 1999)
        self.assertEqual(read(written("row", [long])), ("row", [long]))


class WrongLineTest(Case):

    def wrong(self, text, line):
        with self.subTest(text=text):
            self.fails(InvalidText, {"line": line}, read, text)

    def test_no_strings(self):
        for value in kinds() + [b"row\n", ["row\n"], bytearray(b"row\n")]:
            if not isinstance(value, str):
                self.wrong(value, 0)

    def test_first_lines(self):
        for text in ("", "\n", "x\n", "row", "Row\n", " row\n", "row \n", "row  1\n", "row 1 \n", "rows\n", "row 01\n",
                     "row -0\n",
                     "row +1\n", "row 2/4\n", "row 1/1\n", "row 0/2\n", "row 1/-2\n", "row 1/0\n", "row -\n",
                     "row 1/\n",
                     "row /2\n", "row 1.0\n", "row 1/2/3\n", "row 1/02\n", "row --1\n", "row 1_0\n", "row True\n",
                     "row 0 0 0 0 0 0 0 0 0\n", "numbers" + " 0" * 41 + "\n", "lot 8\n", "lot 1 0\n", "lot 0 0\n",
                     "lot -1\n",
                     "lot 1/2\n", "lot 00\n", "lot x\n", "parting 0\n", "parting \n", "room\n", "room 9\n",
                     "room 1 1\n",
                     "room -1\n", "room 01\n", "room 1/2\n", "room x\n", "pairs\n", "pairs 9\n", "pairs 1 2\n",
                     "pairs x\n",
                     "web\n", "web 9\n", "web 1 2\n", "frame 1\n", "frame \n", "point 0 0\n", "part 0\n", "first 1\n",
                     "tie 0 1\n",
                     "bar 0 1\n", "second 1\n", "x\nrow\n", "row x\nrow\n", "\nrow\n", "lot 9\n\n", "pairs 10\n"):
            self.wrong(text, 1)

    def test_later_lines(self):
        for text, line in (
                ("row\nrow\n", 2), ("row\n\n", 2), ("row\nx", 2), ("row\n ", 2), ("numbers\nnumbers\n", 2),
                ("lot\nlot\n", 2),
                ("lot 0\n\nx\n", 2), ("parting\npart 1\n", 2), ("parting\npart 0 0\n", 2), ("parting\npart 1 0\n", 2),
                ("parting\npart\n", 2), ("parting\npart 0 8\n", 2), ("parting\nx 0\n", 2), ("parting\npart 0 x\n", 2),
                ("parting\npart 0 2\npart 2\n", 3), ("parting\npart 0 2\npart 1 2\n", 3),
                ("parting\npart 0 2\npart 3\n", 3),
                ("parting\npart 0 2\npart 0\n", 3), ("parting\npart 0 1\npart 3\n", 3),
                ("parting\npart 0 1 2 3 4 5 6 7\npart 8\n", 3),
                ("parting\npart 0 1 2 3 4 5 6 7\npart\n", 3), ("parting\npart 0", 2), ("parting\npart 0\n\n", 3),
                ("room 2\nrow 2 0\n", 2), ("room 2\nrow 1\n", 2), ("room 2\nrow 1 0 0\n", 2), ("room 2\nrow 0 0\n", 2),
                ("room 2\nrow 0 1\nrow 1 0\n", 3), ("room 2\nrow 1 1\nrow 0 1\n", 3), ("room 2\nrow 1 0\nrow 1 0\n", 3),
                ("room 2\nrow 1 0\nrow 0 2\n", 3), ("room 2\nrow 1 0\nrow 0 1\nrow 0 0\n", 4), ("room 0\nrow\n", 2),
                ("room 2\nfirst 1 0\n", 2), ("room 2\nrow 1 x\n", 2), ("room 2\nrow 1 0", 2),
                ("pairs 1\nfirst 1 2\n", 2), ("pairs 1\nsecond 1\n", 2), ("pairs 1\nrow 1\n", 2),
                ("pairs 1\nfirst\n", 2),
                ("pairs 1\nfirst 1\nfirst 1\n", 3), ("pairs 1\nfirst 1\nsecond 1 1\n", 3),
                ("pairs 1\nfirst 1\nsecond x\n", 3),
                ("pairs 1\nfirst 1\nsecond 1\nsecond 1\n", 4), ("pairs 1\nfirst 1\nsecond 1\n\n", 4),
                ("pairs 1\nfirst 1", 2),
                ("pairs 1\nfirst 1\nsecond 1", 3), ("pairs 0\nfirst 0\n", 2),
                ("pairs 0\n" + "first\nsecond\n" * 8 + "first\n", 18), ("pairs 0\n" + "first\nsecond\n" * 8 + "x", 18),
                ("web 3\ntie 1 0\n", 2), ("web 3\ntie 0 3\n", 2), ("web 3\ntie 1 1\n", 2), ("web 3\ntie 0\n", 2),
                ("web 3\ntie 0 1 2\n", 2),
                ("web 3\ntie -1 0\n", 2), ("web 3\nbar 0 1\n", 2), ("web 0\ntie 0 1\n", 2),
                ("web 2\n" + "tie 0 1\n" * 9, 10),
                ("web 3\ntie 0 1\n\ntie 0 1\n", 3), ("web 3\ntie 0 1/2\n", 2),
                ("frame\nbar 0 1\n", 2), ("frame\npoint 0\n", 2), ("frame\npoint 0 0 0\n", 2),
                ("frame\npoint 0 2/4\n", 2),
                ("frame\npoint 0 0\nbar 0 1\n", 3), ("frame\npoint 0 0\npoint 1 1\nbar 1 0\n", 4),
                ("frame\npoint 0 0\npoint 1 1\nbar 0 1\npoint 0 0\n", 5), ("frame\npoint 0 0\npoint 1 1\nbar 0 2\n", 4),
                ("frame\n" + "point 0 0\n" * 6, 7), ("frame\n" + "point 0 0\n" * 2 + "bar 0 1\n" * 9, 12),
                ("frame\ntie 0 1\n", 2),
                ("frame\npoint 0 0\npoint 0 0\nbar 0 0\n", 4), ("frame\npoint 0 0\npoint 0 0\nbar 0 1 1\n", 4)):
            self.wrong(text, line)

    def test_only_lines_lack(self):
        for text, line in (("", 1), ("parting\npart 0 2\n", 3), ("pairs 1\nfirst 1\n", 3),
                           ("parting\npart 0 7\npart 1 6\n", 4),
                           ("parting\npart 0 2\npart 1 4\n", 4), ("pairs 0\nfirst\nsecond\nfirst\n", 5)):
            self.wrong(text, line)
        for text in ("parting\n", "room 3\n", "pairs 2\n", "web 4\n", "frame\n", "numbers\n", "row\n", "lot\n"):
            self.assertEqual(written(*read(text)), text)

    def test_texts_that_were_changed(self):
        wrong = []
        for sort in ALL_SORTS:
            chance = random.Random("wrong " + sort)
            for _ in range(250):
                text = spoilt_text(chance, written(sort, some_value(chance, sort)))
                line = plain_wrong_line(text)
                if line is None:
                    self.assertEqual(written(*read(text)), text)
                else:
                    wrong.append(line)
                    self.wrong(text, line)
        self.assertGreater(len(set(wrong)), 12)

    def test_texts_that_were_joined(self):
        chance = random.Random("joined")
        for _ in range(80):
            one, other = (written(sort,
                                  some_value(chance, sort)) for sort in (chance.choice(ALL_SORTS) for _ in range(2)))
            self.wrong(one + other, one.count("\n") + 1)
            self.wrong(one[:-1] + other, plain_wrong_line(one[:-1] + other))

    def test_the_second_reckoner_itself(self):
        for sort in ALL_SORTS:
            for value in EDGES[sort]:
                self.assertIs(plain_wrong_line(written(sort, value)), None)


if __name__ == "__main__":
    unittest.main()
