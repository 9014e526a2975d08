"""Sheets: the things and claims of a desk at one time, what commands mean there, and sheets behind a deed."""

from pairsfree.claims import copied_part, is_claim, is_true
from pairsfree.errors import InvalidClaim, LabelTaken, NameTaken, TooMany, UnknownLabel, UnknownName
from pairsfree.frames import Frame
from pairsfree.makers import changed, is_changer, is_maker, made
from pairsfree.pairs import Pairs
from pairsfree.webs import Web
from pairsfree.wording import row_word

MOST_THINGS = 12
MOST_CLAIMS = 12


class Sheet:
    """Things by their names, claims and their states by their labels, at one time; they never change.

    A claim is noted as a tuple of its word, the name of its thing, and its count or its lot.
    """

    def __init__(self, things, claims, states):
        self.things = things
        self.claims = claims
        self.states = states


def meanings(sheet, kinds, parts):
    """The parts of a command, things in the place of their names: NameTaken; LabelTaken; UnknownName; UnknownLabel."""
    found = []
    for kind, part in zip(kinds, parts):
        found.append(meaning(sheet, kind_wanted(kind, found), part))
    return found


def kind_wanted(kind, ahead):
    """The kind of thing that is wanted behind these meanings: that of the thing ahead where it is to be the same."""
    return kind_of(ahead[-1]) if kind == "OTHER" else kind


def meaning(sheet, kind, part):
    """What the part means as one of this kind: NameTaken; LabelTaken; UnknownName; UnknownLabel."""
    if kind == "NEW" and part in sheet.things:
        raise NameTaken(part)
    if kind == "FRESH" and part in sheet.claims:
        raise LabelTaken(part)
    if kind == "LABEL" and part not in sheet.claims:
        raise UnknownLabel(part)
    return thing_kept(sheet, kind, part) if kind in ("ONE", "WEB", "FRAME", "ROOM", "NAME") else part


def thing_kept(sheet, kind, name):
    """What is kept under the name, of this kind or of any if it is NAME: UnknownName."""
    if name not in sheet.things:
        raise UnknownName(name)
    thing = sheet.things[name]
    if kind != "NAME" and kind != kind_of(thing):
        raise UnknownName(name)
    return copied_thing(thing)


def kind_of(thing):
    """The kind of a thing, by the word that commands have for it."""
    if isinstance(thing, Pairs):
        return "ONE"
    if isinstance(thing, Web):
        return "WEB"
    return "FRAME" if isinstance(thing, Frame) else "ROOM"


def copied_thing(thing):
    """The thing, if it is a room of new lists, as only these could be changed."""
    if not isinstance(thing, tuple):
        return thing
    size, room = thing
    return size, [list(row) for row in room]


def claim_now(sheet, label):
    """The claim of the label, of what is kept now; None if there is none."""
    return claim_there(sheet.things, sheet.claims[label])


def claim_words(sheet, label):
    """The claim of the label in words."""
    word, name, part = sheet.claims[label]
    told = row_word(part) if isinstance(part, list) else str(part)
    return f"{word} {name} {told}"


def claim_there(things, noted):
    """The noted claim of one of these things; None if there is none."""
    word, name, part = noted
    claim = (word, things.get(name), copied_part(part))
    return claim if is_claim(claim) else None


def state_there(things, noted):
    """The state of a label for which this is noted, with these things."""
    claim = claim_there(things, noted)
    if claim is None:
        return "gone"
    return "true" if is_true(claim) else "false"


def sheet_behind(sheet, word, parts, found):
    """The sheet behind a deed with these parts, which mean what was found: the errors of the deed, of state last."""
    if is_maker(word):
        return with_thing(sheet, parts[0], made(word, found[1:]))
    if is_changer(word):
        return with_thing(sheet, parts[0], changed(word, found))
    if word == "drop":
        return with_things(sheet, {name: thing for name, thing in sheet.things.items() if name != parts[0]}, parts[0])
    if word == "forget":
        return without_label(sheet, parts[0])
    return with_claim(sheet, parts, found)


def with_thing(sheet, name, thing):
    """The sheet with the thing under the name: TooMany."""
    things = dict(sheet.things)
    things[name] = thing
    if len(things) > MOST_THINGS:
        raise TooMany("names", MOST_THINGS)
    return with_things(sheet, things, name)


def with_things(sheet, things, name):
    """The sheet with these things, of which only that of the name is another one, or is gone or new."""
    states = dict(sheet.states)
    for label, noted in sheet.claims.items():
        if noted[1] == name:
            states[label] = state_there(things, noted)
    return Sheet(things, sheet.claims, states)


def with_claim(sheet, parts, found):
    """The sheet with one label more: InvalidClaim; TooMany."""
    label, word, name, part = parts
    claim = (word, found[2], part)
    if not is_claim(claim):
        raise InvalidClaim(claim)
    if len(sheet.claims) == MOST_CLAIMS:
        raise TooMany("labels", MOST_CLAIMS)
    claims, states = dict(sheet.claims), dict(sheet.states)
    claims[label] = (word, name, part)
    states[label] = state_there(sheet.things, claims[label])
    return Sheet(sheet.things, claims, states)


def without_label(sheet, label):
    """The sheet without the label."""
    claims, states = dict(sheet.claims), dict(sheet.states)
    del claims[label]
    del states[label]
    return Sheet(sheet.things, claims, states)


def changes(ahead, behind):
    """The answer to a deed: the labels whose state is another one behind it than ahead of it; `-` for none."""
    states = behind.states
    return states_word({label: states[label] for label in states if ahead.states.get(label) != states[label]})


def states_word(states):
    """Labels with their states in words, sorted; `-` for none."""
    told = [f"{label} {states[label]}" for label in sorted(states)]
    return ", ".join(told) if told else "-"
