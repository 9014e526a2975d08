"""Words of numbers and counts, and of lists of them, as texts and commands have them."""

from math import gcd

from pairsfree.ratios import Ratio

DIGITS = "0123456789"
# In texts and commands: so many numbers in a list, and so many places of a row and positions in a lot.
MOST_NUMBERS = 40
MOST_PLACES = 8
# Python reads no INTEGER of many more digits, and no string that is passed is longer.
MOST_DIGITS = 4000


def read_count(word):
    """The COUNT that the word is written for; None if it is no COUNT."""
    if word == "" or len(word) > MOST_DIGITS or not all([sign in DIGITS for sign in word]):
        return None
    if word.startswith("0") and word != "0":
        return None
    return int(word)


def read_integer(word):
    """The INTEGER that the word is written for; None if it is no INTEGER."""
    if not word.startswith("-"):
        return read_count(word)
    count = read_count(word[1:])
    # There is no `-0`.
    return -count if count else None


def read_number(word):
    """The Ratio that the word is written for; None if it is no NUMBER."""
    above, stroke, below = word.partition("/")
    top = read_integer(above)
    bottom = read_count(below) if stroke else 1
    if top is None or bottom is None:
        return None
    if stroke and (bottom < 2 or gcd(top, bottom) > 1):
        return None
    return Ratio(top, bottom)


def read_each(reader, words):
    """The list of what the reader finds in each word; None if it finds nothing in one of them."""
    found = [reader(word) for word in words]
    return None if any([part is None for part in found]) else found


def row_word(numbers):
    """The word of a row, or of a lot: commas between, `-` for none."""
    return ",".join([str(number) for number in numbers]) if numbers else "-"


def list_word(words):
    """The word of a list of such words: semicolons between, `none` for none."""
    return ";".join(words) if words else "none"
