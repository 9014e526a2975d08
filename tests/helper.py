"""What several tests need: values of every kind, calls that fail, and a second way to reckon steps."""

import copy
import random
import unittest
from fractions import Fraction

from pairsfree.pairs import Pairs
from pairsfree.ratios import Ratio
from pairsfree.steps import steps


def kinds():
    """Values of every kind; none of them is a list of two numbers or more that are all INTEGERS or Ratios."""
    return [
        None, True, False, 0, 1, -1, 2, 7, 17, 10 ** 30, -(10 ** 30), "", "a", "0", "[]", b"", b"0", [], (), {}, set(),
        frozenset(), [[]], [()], ((),), [None], [True], [False], [0], (0,), [1], [-1], [Ratio(0)], ["0"], "01",
        [[0]], [[1]], [[True]], [[False]], [[0], [0]], [[[0]]], [{}], [set()], {0: 1}, {0}, {0: [1]}, [0, "a"],
        [0, True], [[0], None], [[0], 1], [[1], [True]], Ratio(0), Ratio(1), Ratio(1, 2), Ratio, int, len, kinds,
        object(), range(0), range(1), range(2), ([], []), ([0], [1]), [([0], [0])], [([True], [0])], [([0],)],
        [[], []], [[0], []], Pairs(0, []), Pairs(1, [([0], [1])]), Pairs, ValueError("a"),
        NotImplemented, Ellipsis, iter([]), bytearray(b"0"), 1j,
    ]


def tupled(value):
    """The same value with tuples in the place of lists."""
    if isinstance(value, (list, tuple)):
        return tuple(tupled(part) for part in value)
    return value


def rationed(value):
    """The same value with Ratios in the place of INTEGERS."""
    if isinstance(value, (list, tuple)):
        return value.__class__(rationed(part) for part in value)
    if isinstance(value, int):
        return Ratio(value)
    return value


def spoil(value):
    """Change each list in the value, so that whoever shares one with it is found out."""
    if isinstance(value, (list, tuple)):
        for part in value:
            spoil(part)
    if isinstance(value, list):
        value.append("spoilt")


def numbers_are_ratios(rows):
    """Whether this is a list of lists with Ratios alone."""
    return isinstance(rows, list) and all(
        isinstance(row, list) and all(isinstance(number, Ratio) for number in row) for row in rows)


class Case(unittest.TestCase):
    """A test case that knows what the document asks of every call."""

    maxDiff = None

    def fails(self, error, told, call, *args, **named):
        """The call raises just this error, with just these attributes."""
        with self.assertRaises(error) as held:
            call(*args, **named)
        self.assertIs(held.exception.__class__, error)
        for name, value in told.items():
            found = getattr(held.exception, name)
            self.assertTrue(found is value or (found.__class__ is value.__class__ and found == value), (found, value))

    def answers_alike(self, call, **named):
        """By position, by names, again, and after the answer was spoilt: the same, and the arguments unchanged."""
        ahead = copy.deepcopy(named)
        answer = repr(call(**named))
        self.assertEqual(repr(call(*named.values())), answer)
        self.assertEqual(repr(call(**{name: named[name] for name in reversed(list(named))})), answer)
        self.assertEqual(repr(named), repr(ahead))
        spoil(call(**named))
        self.assertEqual(repr(named), repr(ahead))
        self.assertEqual(repr(call(**named)), answer)

    def refuses(self, call, valid, wrong):
        """Each wrong value of a parameter raises its error, whatever wrong value the later parameters have.

        valid: the arguments by their names, in sequence; wrong: by name, the error and the wrong values.
        """
        names = list(valid)
        for at, name in enumerate(names):
            if name not in wrong:
                continue
            error, values = wrong[name]
            later = [other for other in names[at + 1:] if other in wrong]
            for value in values:
                with self.subTest(call=call, name=name, value=value):
                    given = dict(valid)
                    given[name] = value
                    self.fails(error, {"value": value}, call, **given)
                    for other in later:
                        given[other] = wrong[other][1][0]
                    self.fails(error, {"value": value}, call, **given)


def wrong_sizes(most):
    """Values of many kinds that are no size up to the bound."""
    return [most + 1, None, True, False, -1, 10 ** 30, "1", [1], (1,), {}, Ratio(1), Ratio(most), set(), object()]


def wrong_rows(size):
    """Values of many kinds that are no rows of the size, which is at least 1."""
    good = [0] * size
    return [
        None, True, 0, 1, "", "a", {}, set(), range(0), Ratio(1), object(), [good] * 41, [None], [0], [[]], [good, []],
        [good + [0]], [good[1:]], [good, good + [0]], [[True] + good[1:]], [good[1:] + [False]], [good, None],
        [["0"] + good[1:]], [[None] * size], [good, [[0]] * size], [good, "0" * size], {0: good}, iter([good]),
        tuple([good] * 41), (good, tuple(good) + (0,)),
    ]


def wrong_row(size):
    """Values of many kinds that are no row of the size, which is at least 1."""
    good = [0] * size
    return [
        None, True, False, 0, "0" * size, {}, set(), object(), Ratio(1), range(size), good + [0], good[1:],
        [True] + good[1:], good[1:] + [False], good[1:] + ["0"], good[1:] + [None], good[1:] + [[0]], [good],
        tuple(good) + (0,),
    ]


def fraction_rows(rows):
    """The rows with Fractions."""
    return [[Fraction(number.top, number.bottom) if isinstance(number, Ratio) else Fraction(number) for number in row]
            for row in rows]


def plain_steps(rows):
    """The steps of the rows by another way: row after row is put to the steps of those ahead; Fractions."""
    found = []
    for row in fraction_rows(rows):
        for head, line in found:
            row = [number - row[head] * other for number, other in zip(row, line)]
        places = [place for place, number in enumerate(row) if number != 0]
        if places:
            head = places[0]
            row = [number / row[head] for number in row]
            found = [(at, [number - line[head] * other for number, other in zip(line, row)]) for at, line in found]
            found.append((head, row))
    return [row for _, row in sorted(found)]


def random_rows(chance, size, many, low=-2, high=2):
    """Some rows with small numbers, some of them fractions, many of them noughts."""
    return [[chance.choice([0, 0, chance.randint(low, high), Ratio(chance.randint(low, high), chance.randint(1, 3))])
             for _ in range(size)] for _ in range(many)]


def random_room(chance, size):
    """Some room of the size, of any rank."""
    return steps(size, random_rows(chance, size, chance.randint(0, size)))


def random_pairs(chance, size, many):
    """Some pairs with rows in common, multiples, rows of noughts and pairs alike among them."""
    some = random_rows(chance, size, max(1, size)) + random_rows(chance, size, many)
    pairs = [(chance.choice(some), [chance.choice([1, -2]) * number for number in chance.choice(some)])
             for _ in range(many)]
    if many > 1 and chance.random() < 0.3:
        pairs[0] = pairs[-1]
    return Pairs(size, pairs)


def sample_pairs(seed, times=3):
    """Pairs of all sizes and numbers to 8; the same at each call."""
    chance = random.Random(seed)
    return [random_pairs(chance, size, many) for size in (0, 1, 2, 4, 5, 8) for many in (0, 1, 2, 3, 5, 8)
            for _ in range(times)]


WRONG_PAIRS = [None, True, 0, 3, "", "Pairs(0, [])", [], [([1], [0])], (1, [([1], [0])]), {}, Ratio(1), Pairs, object()]
