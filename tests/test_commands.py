"""Names and commands by their words alone: the two tables of [98]."""

import random
import unittest

from pairsfree.commands import is_command, is_deed, is_name
from tests.helper import Case, kinds

NAMES = ["a", "z9", "abcdefgh", "pairs", "none", "k0000000", "undo", "x1y2"]
WRONG_NAMES = ["", "A", "aB", "1a", "9", "abcdefghi", "a-b", "a_b", "a b", " a", "a\n", "a.", "-", "a/b"]
COUNTS = ["0", "7", "10", "99"]
WRONG_COUNTS = ["", "00", "01", "100", "-1", "-0", "+1", "1/2", "x", "1,", "1.0", "-"]
NUMBERS = ["0", "-7", "999999", "-999999/999998", "1/999999", "22/7"]
WRONG_NUMBERS = ["", "-0", "00", "01", "1/1", "2/4", "0/2", "1/-2", "1/0", "1000000", "-1000000", "1/1000000", "+1",
                 "x", "1.5",
                 "--1", "1/", "/2", "1/2/3", "1/02", "1000001/2"]


def several(right, wrong, sign, most, none, one, other):
    """The right and the wrong words of a list with the sign between, with `none` for none."""
    found = [none] + right + [sign.join([one] * most), sign.join([one, other])]
    return found, [sign.join([one] * (most + 1)), "", sign, one + sign, sign + one, one + sign + none,
                   none + sign + one,
                   one + sign + sign + one, none + none, none.upper() if none != "-" else "--"] + wrong + [
                       one + sign + part for part in wrong if part]


ROWS1, WRONG_ROWS1 = several(NUMBERS, WRONG_NUMBERS, ",", 8, "-", "1", "-1/2")
LOTS, WRONG_LOTS = several(COUNTS, [part for part in WRONG_COUNTS if part != "-"], ",", 8, "-", "1", "0")


def fit(words, barred):
    """The words that have none of these signs."""
    return [word for word in words if not any(sign in word for sign in barred)]


def twos(right, wrong, many=2):
    """The right and the wrong words of so many words with `:` between."""
    first, others = right[0], [right[0]] * (many - 1)
    found = [":".join([word] + others) for word in right] + [":".join(others + right[-1:])]
    return found, [first, ":".join([first, first] + others), ":", first + ":", ":" + first] + [
        ":".join([word] + others) for word in wrong] + [":".join(others + [word]) for word in wrong]


PAIR, WRONG_PAIR = twos(ROWS1, WRONG_ROWS1)
TIE, WRONG_TIE = twos(COUNTS, WRONG_COUNTS)
POINT, WRONG_POINT = twos(NUMBERS, WRONG_NUMBERS)
TRIPLE, WRONG_TRIPLE = twos(COUNTS, WRONG_COUNTS, 3)
WORDS = {
    "NAME": (NAMES, WRONG_NAMES), "COUNT": (COUNTS, WRONG_COUNTS), "ROW": (ROWS1, WRONG_ROWS1),
    "LOT": (LOTS, WRONG_LOTS),
    "ROWS": several(ROWS1, fit(WRONG_ROWS1, ";"), ";", 40, "none", "1,2", "-"),
    "PARTING": several(LOTS, fit(WRONG_LOTS, ";"), ";", 8, "none", "0,1", "-"),
    "PAIRS": several(PAIR, WRONG_PAIR, ";", 8, "none", "1,0:0,1/2", "-:-"),
    "TIES": several(TIE, WRONG_TIE, ";", 8, "none", "0:1", "99:0"),
    "POINTS": several(POINT, WRONG_POINT, ";", 5, "none", "0:1/2", "-3:0"),
    "THREES": several(TRIPLE, WRONG_TRIPLE, ";", 8, "none", "0:1:2", "9:0:0"),
}
DEEDS = [
    "pairs NAME COUNT PAIRS", "web NAME COUNT TIES", "frame NAME POINTS TIES", "room NAME COUNT ROWS",
    "put NAME NAME ROW ROW", "without NAME NAME COUNT", "behind NAME NAME NAME", "ofweb NAME NAME", "offrame NAME NAME",
    "threes NAME COUNT THREES", "houses NAME ROWS ROWS", "common NAME NAME", "joined NAME NAME NAME",
    "shared NAME NAME NAME", "pair NAME COUNT ROW ROW", "tie NAME COUNT COUNT", "cut NAME COUNT", "drop NAME",
    "claim NAME atleast NAME COUNT", "claim NAME below NAME COUNT", "claim NAME inall NAME COUNT",
    "claim NAME spared NAME COUNT", "claim NAME insome NAME COUNT", "claim NAME innone NAME COUNT",
    "claim NAME matches NAME COUNT", "claim NAME short NAME COUNT", "claim NAME stands NAME LOT",
    "claim NAME moves NAME LOT",
    "forget NAME"]
OTHERS = [
    "undo", "redo", "state NAME", "states", "claimed NAME", "names", "show NAME", "many NAME", "greatest NAME",
    "lot NAME",
    "free NAME LOT", "rank NAME LOT", "all NAME", "some NAME", "none NAME", "worth NAME NAME PARTING", "matching NAME",
    "left NAME", "barrier NAME LOT", "fewest NAME", "holds NAME ROW", "same NAME NAME"]


def first_word(kind):
    return WORDS[kind][0][1] if kind in WORDS else kind


class NamesTest(Case):

    def test_names(self):
        for value in NAMES + ["abc12345", "q"]:
            self.assertIs(is_name(value), True)
            self.assertIs(is_name(value=value), True)
        for value in WRONG_NAMES:
            self.assertIs(is_name(value), False)
        for value in kinds():
            self.assertIs(is_name(value), isinstance(value, str) and value == "a")


class CommandsTest(Case):

    def is_command(self, text, wanted, deed):
        self.assertIs(is_command(text), wanted, text)
        self.assertIs(is_deed(text), wanted and deed, text)

    def test_each_row_of_the_tables(self):
        chance = random.Random(171)
        for rows, deed in ((DEEDS, True), (OTHERS, False)):
            for row in rows:
                kinds_of = row.split(" ")
                for _ in range(40):
                    some = [chance.choice(WORDS[kind][0]) if kind in WORDS else kind for kind in kinds_of]
                    self.is_command(" ".join(some), True, deed)
                plain = [first_word(kind) for kind in kinds_of]
                self.is_command(" ".join(plain), True, deed)
                for at, kind in enumerate(kinds_of):
                    right, wrong = WORDS.get(kind, ([kind], [kind + "x", kind[:-1], kind.upper(), "", kind + "1",
                                                             "names1"]))
                    for word, so in [(word, True) for word in right] + [(word, False) for word in wrong]:
                        self.is_command(" ".join(plain[:at] + [word] + plain[at + 1:]), so, deed)

    def test_words_and_blanks(self):
        for rows in (DEEDS, OTHERS):
            for row in rows:
                plain = " ".join(first_word(kind) for kind in row.split(" "))
                for text in [plain + " ", " " + plain, plain + "\n", plain + " a", plain + " 0", plain + " -",
                             plain.upper(),
                             plain + " none"]:
                    self.is_command(text, False, False)
                if " " in plain:
                    self.is_command(plain.rsplit(" ", 1)[0], False, False)
                    self.is_command(plain.replace(" ", "  ", 1), False, False)

    def test_no_commands(self):
        for text in ["cut w " + "9" * 5000, "pairs p 1 " + "9" * 5000 + ":1", "", " ", "x", "do", "claim", "claim k", "claim k atleast", "claim k more p 1",
                     "claim k p atleast 1",
                     "claim k stands f 0:1", "claim k stands f 0 1", "claim k matches w -", "pairs p 2 1,0",
                     "pairs p 2",
                     "pairs p none", "room r 2 1,0:0,1", "undo 1", "redo undo", "names names", "atleast p 1", "help",
                     "pairs p x none",
                     "claim k atleast p -", "NEW", "attach k 0", "claim k atleast p 1 2"]:
            self.is_command(text, False, False)

    def test_values_of_every_kind(self):
        for value in kinds() + [b"names", ["names"], ("undo",), {"names": 1}]:
            self.is_command(value, False, False)
        for call in (is_name, is_command, is_deed):
            for value in ("names", "pairs p 2 none", "drop p", "a", [], None):
                self.answers_alike(call, value=value)

    def test_as_they_stand(self):
        self.assertEqual([is_command("pairs p 2 1,0:0,1/2"), is_command("pairs p 2 1,0"), is_deed("claim k inall p 0"),
                          is_command("free p -"), is_deed("undo"), is_deed("drop p"), is_deed("show p")],
                         [True, False, True, True, False, True, False])
        for text in ("pairs p 99 none", "web w 0 9:9", "frame f none none", "room r 99 -;-", "claim k stands f -",
                     "worth p r -", "worth p r none", "worth p r -;0,0", "pair p 0 - -", "claim none none none 0"):
            self.assertIs(is_command(text), text != "claim none none none 0")


if __name__ == "__main__":
    unittest.main()
