"""Pins of frames: the moves that they leave, whether the frame stands with them, and how few will do."""

from pairsfree.checks import is_rising, is_row
from pairsfree.errors import InvalidPins
from pairsfree.frames import bar_table, check_frame, frame_pairs
from pairsfree.lots import greatest_lots
from pairsfree.rooms import is_held_row
from pairsfree.steps import idle_row, zeros


def moves(frame, pins):
    """The told steps of all moves of the frame with the pins: InvalidFrame; InvalidPins."""
    check_pins(frame, pins)
    size = 2 * frame.many
    # A pin is like two bars more, which hold its point in both directions.
    held = [idle_row(size, 2 * pin + axis) for pin in pins for axis in (0, 1)]
    return zeros(size, bar_table(frame) + held)


def stands(frame, pins):
    """Whether the frame has no move with the pins: InvalidFrame; InvalidPins."""
    return len(moves(frame, pins)) == 0


def is_move(frame, pins, value):
    """Whether any value is a move of the frame with the pins: InvalidFrame; InvalidPins."""
    room = moves(frame, pins)
    size = 2 * frame.many
    return is_row(size, value) and is_held_row(size, room, value)


def fewest_pins(frame):
    """How few pins there are with which the frame stands, a COUNT: InvalidFrame."""
    return len(pins(frame))


def pins(frame):
    """As few pins with which the frame stands as can be, a list of positions of points: InvalidFrame."""
    lot = greatest_lots(frame_pairs(frame))[0]
    # The points that go without a pin are just those whose columns are all free of one another.
    return [point for point in range(frame.many) if point not in lot]


def is_pins(frame, value):
    """Whether any value is pins, however many, with which the frame stands: InvalidFrame."""
    check_frame(frame)
    return is_rising(frame.many, value) and stands(frame, value)


def check_pins(frame, pins):
    """InvalidFrame unless a Frame; InvalidPins unless pins of it."""
    check_frame(frame)
    if not is_rising(frame.many, pins):
        raise InvalidPins(pins)
