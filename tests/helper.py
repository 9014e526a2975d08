"""What several tests need: values of every kind, calls that fail, and a second way to reckon steps."""

import copy
import itertools
import random
import unittest
from fractions import Fraction

from pairsfree.errors import NothingToRedo
from pairsfree.frames import Frame
from pairsfree.pairs import Pairs
from pairsfree.ratios import Ratio
from pairsfree.steps import steps
from pairsfree.webs import Web


def kinds():
    """Values of every kind; none of them is a list of two numbers or more that are all INTEGERS or Ratios."""
    return [
        None, True, False, 0, 1, -1, 2, 7, 17, 10 ** 30, -(10 ** 30), "", "a", "0", "[]", b"", b"0", [], (), {}, set(),
        frozenset(), [[]], [()], ((),), [None], [True], [False], [0], (0,), [1], [-1], [Ratio(0)], ["0"], "01",
        [[0]], [[1]], [[True]], [[False]], [[0], [0]], [[[0]]], [{}], [set()], {0: 1}, {0}, {0: [1]}, [0, "a"],
        [0, True], [[0], None], [[0], 1], [[1], [True]], Ratio(0), Ratio(1), Ratio(1, 2), Ratio, int, len, kinds,
        object(), range(0), range(1), range(2), ([], []), ([0], [1]), [([0], [0])], [([True], [0])], [([0],)],
        [[], []], [[0], []], Pairs(0, []), Pairs(1, [([0], [1])]), Pairs, ValueError("a"),
        NotImplemented, Ellipsis, iter([]), bytearray(b"0"), 1j,
    ]


def tupled(value):
    """The same value with tuples in the place of lists."""
    if isinstance(value, (list, tuple)):
        return tuple(tupled(part) for part in value)
    return value


def rationed(value):
    """The same value with Ratios in the place of INTEGERS."""
    if isinstance(value, (list, tuple)):
        return value.__class__(rationed(part) for part in value)
    if isinstance(value, int):
        return Ratio(value)
    return value


def spoil(value):
    """Change each list in the value, so that whoever shares one with it is found out."""
    if isinstance(value, (list, tuple)):
        for part in value:
            spoil(part)
    if isinstance(value, list):
        value.append("spoilt")


def numbers_are_ratios(rows):
    """Whether this is a list of lists with Ratios alone."""
    return isinstance(rows, list) and all(
        isinstance(row, list) and all(isinstance(number, Ratio) for number in row) for row in rows)


class Case(unittest.TestCase):
    """A test case that knows what the document asks of every call."""

    maxDiff = None

    def fails(self, error, told, call, *args, **named):
        """The call raises just this error, with just these attributes."""
        with self.assertRaises(error) as held:
            call(*args, **named)
        self.assertIs(held.exception.__class__, error)
        for name, value in told.items():
            found = getattr(held.exception, name)
            self.assertTrue(found is value or (found.__class__ is value.__class__ and found == value), (found, value))

    def answers_alike(self, call, **named):
        """By position, by names, again, and after the answer was spoilt: the same, and the arguments unchanged."""
        ahead = copy.deepcopy(named)
        answer = repr(call(**named))
        self.assertEqual(repr(call(*named.values())), answer)
        self.assertEqual(repr(call(**{name: named[name] for name in reversed(list(named))})), answer)
        self.assertEqual(repr(named), repr(ahead))
        spoil(call(**named))
        self.assertEqual(repr(named), repr(ahead))
        self.assertEqual(repr(call(**named)), answer)

    def refuses(self, call, valid, wrong):
        """Each wrong value of a parameter raises its error, whatever wrong value the later parameters have.

        valid: the arguments by their names, in sequence; wrong: by name, the error and the wrong values.
        """
        names = list(valid)
        for at, name in enumerate(names):
            if name not in wrong:
                continue
            error, values = wrong[name]
            later = [other for other in names[at + 1:] if other in wrong]
            for value in values:
                with self.subTest(call=call, name=name, value=value):
                    given = dict(valid)
                    given[name] = value
                    self.fails(error, {"value": value}, call, **given)
                    for other in later:
                        given[other] = wrong[other][1][0]
                    self.fails(error, {"value": value}, call, **given)


def wrong_sizes(most):
    """Values of many kinds that are no size up to the bound."""
    return [most + 1, None, True, False, -1, 10 ** 30, "1", [1], (1,), {}, Ratio(1), Ratio(most), set(), object()]


def wrong_rows(size):
    """Values of many kinds that are no rows of the size, which is at least 1."""
    good = [0] * size
    return [
        None, True, 0, 1, "", "a", {}, set(), range(0), Ratio(1), object(), [good] * 41, [None], [0], [[]], [good, []],
        [good + [0]], [good[1:]], [good, good + [0]], [[True] + good[1:]], [good[1:] + [False]], [good, None],
        [["0"] + good[1:]], [[None] * size], [good, [[0]] * size], [good, "0" * size], {0: good}, iter([good]),
        tuple([good] * 41), (good, tuple(good) + (0,)),
    ]


def idle(size):
    """The room of all rows of the size."""
    return [[1 if place == at else 0 for place in range(size)] for at in range(size)]


def wrong_rooms(size):
    """Values of many kinds that are no room of the size, which is at least 2."""
    nought, one = [0] * size, [1] + [0] * (size - 1)
    last = [0] * (size - 1) + [1]
    return [
        None, True, 0, "", {}, set(), object(), Ratio(1), [nought], [one, nought], [nought, last], [[2] + one[1:]],
        [last, one], [one, one], [[1] * size, last], [one, [1] * size], [one + [0]], [one[1:]], [[True] + one[1:]],
        [one[:-1] + [False]], [one, None], [[-1] + one[1:]], idle(size) + [nought], idle(size) + idle(size), one,
        ([Ratio(1, 2)] + one[1:],), range(0), {0: one}, iter([one]), [["1"] + one[1:]], [[Ratio(0)] * size],
    ]


def wrong_places(many):
    """Values of many kinds that are no position of so many things."""
    return [many, many + 1, -1, 10 ** 30, None, True, False, "0", Ratio(0), Ratio(1), [0], (0,), {}, set(), object()]


def wrong_row(size):
    """Values of many kinds that are no row of the size, which is at least 1."""
    good = [0] * size
    return [
        None, True, False, 0, "0" * size, {}, set(), object(), Ratio(1), range(size), good + [0], good[1:],
        [True] + good[1:], good[1:] + [False], good[1:] + ["0"], good[1:] + [None], good[1:] + [[0]], [good],
        tuple(good) + (0,),
    ]


def fraction_rows(rows):
    """The rows with Fractions."""
    return [[Fraction(number.top, number.bottom) if isinstance(number, Ratio) else Fraction(number) for number in row]
            for row in rows]


def plain_steps(rows):
    """The steps of the rows by another way: row after row is put to the steps of those ahead; Fractions."""
    found = []
    for row in fraction_rows(rows):
        for head, line in found:
            row = [number - row[head] * other for number, other in zip(row, line)]
        places = [place for place, number in enumerate(row) if number != 0]
        if places:
            head = places[0]
            row = [number / row[head] for number in row]
            found = [(at, [number - line[head] * other for number, other in zip(line, row)]) for at, line in found]
            found.append((head, row))
    return [row for _, row in sorted(found)]


def plain_rank(rows):
    """The rank of the rows by the other way."""
    return len(plain_steps(rows))


def plain_zeros(size, rows):
    """Rows that make all zeros of the rows; Fractions."""
    room = plain_steps(rows)
    heads = [next(place for place, number in enumerate(row) if number) for row in room]
    found = []
    for place in range(size):
        if place not in heads:
            zero = [Fraction(int(at == place)) for at in range(size)]
            for row, head in zip(room, heads):
                zero[head] = -row[place]
            found.append(zero)
    return found


def lot_rows(told, lot):
    """The rows of the lot of the told pairs."""
    return [row for place in lot for row in told[place]]


def plain_lots(pairs, many):
    """All free lots of so many positions, by going through all of them."""
    return lots_behind(pairs, [], many)


def lots_behind(pairs, room, many):
    """All lots of so many positions that are free behind the room of some rows, by going through all of them."""
    told = pairs.told()
    lots = [list(lot) for lot in itertools.combinations(range(pairs.many), many)]
    return [lot for lot in lots if plain_rank(room + lot_rows(told, lot)) == plain_rank(room) + 2 * many]


def plain_greatest_lots(pairs, room=()):
    """All greatest ones of the lots that are free behind the room of some rows, by going through all of them."""
    room = list(room)
    most = (pairs.size - plain_rank(room)) // 2
    return [lots for lots in [lots_behind(pairs, room, many) for many in range(most + 1)] if lots][-1]


def plain_greatest(pairs, room=()):
    """The greatest number of the pairs behind the room of some rows, by going through all lots."""
    return len(plain_greatest_lots(pairs, room)[0])


def is_in_all_rooms(pairs, row, room=()):
    """Whether, behind the room of some rows, the rows of each greatest lot make the row."""
    told = pairs.told()
    rooms = [list(room) + lot_rows(told, lot) for lot in plain_greatest_lots(pairs, room)]
    return all(plain_rank(rows + [row]) == plain_rank(rows) for rows in rooms)


def plain_common(pairs, room=()):
    """The steps of all rows that, with those of the room, are made of the room and the rows of each greatest lot."""
    told = pairs.told()
    zeros = [zero for lot in plain_greatest_lots(pairs, room)
             for zero in plain_zeros(pairs.size, list(room) + lot_rows(told, lot))]
    return plain_steps(plain_zeros(pairs.size, zeros))


def plain_behind(pairs, room):
    """The Pairs behind the room that some rows make, each row reckoned by the words."""
    room = plain_steps(room)
    heads = [next(place for place, number in enumerate(row) if number) for row in room]
    found = []
    for pair in pairs.told():
        rows = fraction_rows(pair)
        for head, line in zip(heads, room):
            rows = [[number - row[head] * taken for number, taken in zip(row, line)] for row in rows]
        found.append([[Ratio(number.numerator, number.denominator) for place, number in enumerate(row)
                       if place not in heads] for row in rows])
    return Pairs(pairs.size - len(room), found)


def plain_worth(pairs, room, parting):
    """The worth of the bound by ranks of the room's rows with those of each part."""
    told = pairs.told()
    return len(room) + sum((plain_rank(list(room) + lot_rows(told, part)) - len(room)) // 2 for part in parting)


def plain_partings(many):
    """All told partings, by another way: the others of the part of the first position are chosen, and so on."""
    def split(places):
        if not places:
            return [[]]
        found = []
        for length in range(len(places)):
            for others in itertools.combinations(places[1:], length):
                left = [place for place in places[1:] if place not in others]
                found.extend([[places[0], *others]] + rest for rest in split(left))
        return found
    return sorted(split(list(range(many))))


def plain_least_worth(pairs, room):
    """The least worth of all partings with the room."""
    told = pairs.told()
    parts = [part for length in range(1, pairs.many + 1) for part in itertools.combinations(range(pairs.many), length)]
    halves = {part: (plain_rank(list(room) + lot_rows(told, part)) - len(room)) // 2 for part in parts}
    return len(room) + min(sum(halves[tuple(part)] for part in parting) for parting in plain_partings(pairs.many))


def is_told_room(size, room):
    """Whether this is a list of lists of Ratios, in steps."""
    return numbers_are_ratios(room) and all(len(row) == size for row in room) and (
        fraction_rows(room) == plain_steps(room))


def random_rows(chance, size, many, low=-2, high=2):
    """Some rows with small numbers, some of them fractions, many of them noughts."""
    return [[chance.choice([0, 0, chance.randint(low, high), Ratio(chance.randint(low, high), chance.randint(1, 3))])
             for _ in range(size)] for _ in range(many)]


def random_room(chance, size):
    """Some room of the size, of any rank."""
    return steps(size, random_rows(chance, size, chance.randint(0, size)))


def random_pairs(chance, size, many):
    """Some pairs with rows in common, multiples, rows of noughts and pairs alike among them."""
    some = random_rows(chance, size, max(1, size)) + random_rows(chance, size, many)
    pairs = [(chance.choice(some), [chance.choice([1, -2]) * number for number in chance.choice(some)])
             for _ in range(many)]
    if many > 1 and chance.random() < 0.3:
        pairs[0] = pairs[-1]
    return Pairs(size, pairs)


def sample_pairs(seed, times=3):
    """Pairs of all sizes and numbers to 8; the same at each call."""
    chance = random.Random(seed)
    return [random_pairs(chance, size, many) for size in (0, 1, 2, 4, 5, 8) for many in (0, 1, 2, 3, 5, 8)
            for _ in range(times)]


def knit_pairs(chance, size, many):
    """Some pairs of which several are made of the same few rows: so there are rooms that they share."""
    base = [[chance.randint(-1, 1) for _ in range(size)] for _ in range(chance.randint(0, 2))]
    parts = [base + [[chance.randint(-1, 1) for _ in range(size)] for _ in range(chance.randint(1, 3))]
             for _ in range(max(1, many // 2))]
    return Pairs(size, [tuple(mixed_row(chance, size, part) for _ in range(2))
                        for part in [chance.choice(parts) for _ in range(many)]])


def tied_pairs(chance, size, many):
    """Some pairs of which each is made of two of the rows of one free list: so some are in no greatest lot."""
    rows = [[chance.randint(-1, 1) if place < at else int(place == at) for place in range(size)] for at in range(size)]
    if size < 2:
        return Pairs(size, [(row, row) for row in [[0] * size] * many])
    return Pairs(size, [tuple(chance.sample(rows, 2)) for _ in range(many)])


def mixed_row(chance, size, rows):
    """A row that is made of the rows with small multiples."""
    times = [chance.choice([0, 1, -1, 2]) for _ in rows]
    return [sum(number * row[place] for number, row in zip(times, rows)) for place in range(size)]


def few_pairs(seed, times=1, sizes=(0, 1, 2, 3, 4, 5, 6), manies=(0, 1, 2, 3, 4, 5, 7)):
    """Pairs of all sizes and numbers to 7, of three kinds, as often as told; the same at each call."""
    chance = random.Random(seed)
    return [made(chance, size, many) for size in sizes for many in manies
            for made in (random_pairs, knit_pairs, tied_pairs) for _ in range(times)]


def plain_determinant(rows):
    """The determinant, by all sequences of the places; Fractions."""
    rows = fraction_rows(rows)
    return sum(sign * product_of([row[place] for row, place in zip(rows, places)])
               for places, sign in sequences(len(rows)))


def sequences(many):
    """All sequences of so many places, each with the sign of how many of them stand behind a greater one."""
    for places in itertools.permutations(range(many)):
        turned = sum(places[i] > places[j] for i in range(many) for j in range(i, many))
        yield places, -1 if turned % 2 else 1


def product_of(numbers):
    """All multiplied, 1 of none."""
    found = Fraction(1)
    for number in numbers:
        found = found * number
    return found


def random_table(chance, size):
    """Some turned table with small numbers, some of them fractions."""
    table = [[0] * size for _ in range(size)]
    for i, j in itertools.combinations(range(size), 2):
        number = chance.choice([0, chance.randint(-3, 3), Ratio(chance.randint(-3, 3), chance.randint(1, 3))])
        table[i][j], table[j][i] = number, -number
    return table


def wrong_tables():
    """Values of many kinds that are no turned table."""
    return [None, True, False, 0, "", "0", {}, set(), object(), Ratio(0), range(0), [1], [0], [[]], [[1]], [[False]],
            [[0, 0]], [[0], [0]], [[0, 1], [1, 0]], [[0, 1], [0, 0]], [[1, 0], [0, -1]], [[0, 1], [-1, 1]],
            [[0, 1], [-1]], [[0, 1], [-1, 0], [0, 0]], [[0, True], [-1, 0]], [[0, False], [0, 0]], [[0, 1], None],
            [[0, "1"], ["-1", 0]],
            [[0, 1, 2], [-1, 0, 3], [-2, 3, 0]], [[0, Ratio(1, 2)], [Ratio(1, 2), 0]], [[0] * 9] * 9, {0: [0]},
            iter([]), ((0, 1), (1, 0)), [[0, 0], (0, 0, 0)], [[Ratio(1)]], [[0, [1]], [[-1], 0]], Pairs(0, [])]


def wrong_numbers(many):
    """Values of many kinds that are no list of so many NUMBERS; many is at least 1."""
    good = [1] * many
    return [None, True, 0, "", "1" * many, {}, set(), object(), Ratio(1), range(many), good + [1], good[1:],
            [True] + good[1:], good[1:] + [False], good[1:] + [None], good[1:] + ["1"], good[1:] + [[1]], [good],
            tuple(good) + (1,), dict.fromkeys(range(many), 1), iter(good)]


def wrong_places_lists(size):
    """Values of many kinds that are no rising list of unlike places below the size, which is at least 3."""
    return [None, True, 0, "", "01", {}, {0: 1}, {0, 1}, object(), Ratio(0), range(2), [1, 0], [0, 0], [0, 1, 1],
            [0, size], [size], [-1, 0], [True], [False, 1], [0, True], [Ratio(0), 1], [0, Ratio(1)], ["0", "1"],
            [[0], [1]], (2, 1), (0, 0), [None], [0, 10 ** 30], [[0, 1]], iter([0, 1])]


WRONG_LOTS = [[2, 0], [0, 0], [8], [0, 3], [-1], [True], [False], [0, True], [Ratio(0)], ["0"], [[0]], (1, 0), (0, 0),
              None, 0, True, "", "01", {}, {0: 1}, {0}, range(2), [None], object(), [10 ** 30]]
# Of three pairs.
WRONG_PARTINGS = [[], [[0], [1]], [[0, 1], [1, 2]], [[0, 1, 2], []], [[], [0, 1, 2]], [[0, 1, 2, 3]], [[0, 1, 2], [3]],
                  [[0, 0, 1, 2]], [[0, 1, 2], [0, 1, 2]], [[0, 1], [True, 2]], [[False], [1], [2]], [[0, 1, Ratio(2)]],
                  [0, 1, 2], [[0, 1], 2], [[0, 1], None], [[0, 1], "2"], "012", None, 0, True, "", {}, {0: [1]}, set(),
                  [{0, 1, 2}], [range(3)], range(3), object(), [[0, 1, -1]], [[0, 1, [2]]], ((0, 1), (1, 2)), (),
                  [[0, 1, 2, 10 ** 30]], [[0], [1], [2], [2]], [{0: 0, 1: 1, 2: 2}], iter([[0, 1, 2]])]
WRONG_PAIRS = [None, True, 0, 3, "", "Pairs(0, [])", [], [([1], [0])], (1, [([1], [0])]), {}, Ratio(1), Pairs, object()]
WRONG_FRAMES = [None, True, 0, "", "Frame([], [])", [], ([], []), {}, Ratio(1), object(), Pairs(0, [])]


def random_frame(chance, many, bars):
    """Some frame of so many points, some of them at one place or on one line, and of so many bars, some alike."""
    places = [(chance.randint(-1, 2), chance.choice([0, 0, 1, 2, Ratio(1, 2)])) for _ in range(many)]
    points = [chance.choice(places) for _ in range(many)] if chance.random() < 0.3 else places
    ties = [tuple(sorted(chance.sample(range(many), 2))) for _ in range(bars)] if many > 1 else []
    return Frame(points, ties)


def sample_frames(seed, times=2):
    """Frames of all numbers of points and of bars; the same at each call."""
    chance = random.Random(seed)
    return [random_frame(chance, many, bars) for many in range(6) for bars in (0, 1, 2, 3, 5, 7, 8)
            for _ in range(times if many > 1 else 1)]


def plain_table(frame):
    """The table of the frame by the words; Fractions."""
    points, table = fraction_rows(frame.points()), []
    for i, j in frame.bars():
        row = [Fraction(0)] * (2 * len(points))
        for axis in (0, 1):
            row[2 * i + axis] += points[i][axis] - points[j][axis]
            row[2 * j + axis] -= points[i][axis] - points[j][axis]
        table.append(row)
    return table


def pinned_rows(frame, pins):
    """The rows of which each move makes 0 with: those of the table, and 1 at each place of each pin."""
    rows = plain_table(frame)
    return rows + [row for at, row in enumerate(idle(2 * frame.many)) if at // 2 in pins]


def plain_stands(frame, pins):
    """Whether the frame has no move with the pins, by a rank."""
    return plain_rank(pinned_rows(frame, pins)) == 2 * frame.many


def plain_fewest(frame):
    """The fewest pins, by going through all of them."""
    return min(many for many in range(frame.many + 1) for pins in itertools.combinations(range(frame.many), many)
               if plain_stands(frame, pins))


def some_numbers(chance, most):
    """Some list of numbers, at most so many."""
    many = chance.choice([0, 1, 2, most, chance.randint(0, most)])
    fractions = [Ratio(chance.randint(-99, 99), chance.randint(1, 99)) for _ in range(many)]
    return [chance.choice([0, 1, -1, chance.randint(-999999, 999999), fraction]) for fraction in fractions]


def some_parting(chance):
    """Some parting of at most eight positions, in whatever sequence."""
    parts = {}
    for place in chance.sample(range(8), 8):
        parts.setdefault(chance.randint(0, 3), []).append(place)
    many = chance.randint(0, 8)
    kept = [[place for place in part if place < many] for part in parts.values()]
    return [part for part in kept if part]


def some_web(chance):
    """Some web of at most eight places and eight ties."""
    size = chance.randint(0, 8)
    return Web(size, [tuple(sorted(chance.sample(range(size), 2))) for _ in range(chance.randint(0, 8)) if size > 1])


def some_value(chance, sort):
    """Some value of the sort."""
    if sort == "numbers":
        return some_numbers(chance, 40)
    if sort == "row":
        return some_numbers(chance, 8)
    if sort == "lot":
        return sorted(chance.sample(range(8), chance.randint(0, 8)))
    if sort == "parting":
        return some_parting(chance)
    if sort == "room":
        size = chance.randint(0, 8)
        return size, random_room(chance, size)
    if sort == "pairs":
        return random_pairs(chance, chance.randint(0, 8), chance.randint(0, 8))
    if sort == "web":
        return some_web(chance)
    return random_frame(chance, chance.randint(0, 5), chance.randint(0, 8))


EIGHT = [0, 1, -2, Ratio(3, 4), 5, 6, 7, 8]
ALL_SORTS = ["numbers", "row", "lot", "parting", "room", "pairs", "web", "frame"]
# By sort: values of it, told so that a text is single; the least ones and the greatest ones among them.
EDGES = {
    "numbers": [[], [Ratio(0)], [Ratio(-5, 7)] * 40],
    "row": [[], [Ratio(0)], [Ratio(-999999, 999998)] * 8],
    "lot": [[], [0], [7], [0, 1, 2, 3, 4, 5, 6, 7]],
    "parting": [[], [[0]], [[0, 1, 2, 3, 4, 5, 6, 7]], [[0, 7], [1, 6], [2, 3], [4], [5]],
                [[place] for place in range(8)]],
    "room": [(0, []), (8, []), (1, [[Ratio(1)]]), (8, rationed(idle(8))), (3, rationed([[0, 1, Ratio(1, 2)]]))],
    "pairs": [Pairs(0, []), Pairs(8, []), Pairs(0, [([], [])] * 8), Pairs(8, [(EIGHT, EIGHT)] * 8)],
    "web": [Web(0, []), Web(8, []), Web(8, [(0, 7), (6, 7), (0, 1), (0, 1), (2, 3), (3, 4), (0, 7), (1, 2)])],
    "frame": [Frame([], []), Frame([(0, 0)], []), Frame([(Ratio(1, 2), -3)] * 5, [(0, 4), (3, 4)] * 4)],
}


def whole(desk):
    """All that can be told of a desk, what can be taken back and done again and what fits included."""
    names, labels = desk.names, desk.labels
    told = [names, labels, [repr(desk[name]) for name in names], [repr(desk.claim_of(label)) for label in labels],
            [desk.do("state " + label) for label in labels], [desk.do("claimed " + label) for label in labels],
            [desk.fits(label) for label in labels], desk.lines(), len(desk)]
    return told + [again_lines(desk)]


def again_lines(desk):
    """The lines that can be done again, told by a copy that does it."""
    copied, found = desk.copy(), []
    while True:
        try:
            found.append(copied.do("redo"))
        except NothingToRedo:
            return found
