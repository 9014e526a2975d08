"""A desk that keeps things under names and notes claims of them under labels, by commands; and trials of it."""

from pairsfree.checks import is_list
from pairsfree.claims import contrary, is_paper_of
from pairsfree.commands import is_deed, is_deed_word, is_name, parts_of
from pairsfree.errors import (
    CommandFailed, InvalidCommand, InvalidLines, InvalidPaper, LimitError, MissingError, NothingToRedo, NothingToUndo,
    RowError, StateError, TooMany, UnknownLabel, UnknownName)
from pairsfree.sheets import (
    Sheet, changes, claim_now, claim_words, copied_thing, meanings, sheet_behind, states_word)
from pairsfree.tellers import answer_of

MOST_DEEDS = 300


class Page:
    """All that a desk has at one time, which never changes: so desks and trials may have one page in common.

    past: the lines of the deeds that can be taken back, each with the sheet ahead of it; undone: those that were taken
    back, the last one last, each with the sheet behind it; papers: by label, each a tuple of the paper, the words of
    the claim when it was attached, and whether it is one of the claim itself.
    """

    def __init__(self, sheet, past, undone, papers):
        self.sheet = sheet
        self.past = past
        self.undone = undone
        self.papers = papers


class Desk:
    """Things under names and claims under labels; its commands change it."""

    def __init__(self):
        self._page = Page(Sheet({}, {}, {}), [], [], {})

    @property
    def names(self):
        """The sorted list of the names."""
        return sorted(list(self._page.sheet.things))

    @property
    def labels(self):
        """The sorted list of the labels."""
        return sorted(list(self._page.sheet.claims))

    def __len__(self):
        return len(self._page.past)

    def __contains__(self, value):
        return is_name(value) and value in self._page.sheet.things

    def __getitem__(self, name):
        if name not in self:
            raise UnknownName(name)
        return copied_thing(self._page.sheet.things[name])

    def __iter__(self):
        raise TypeError("a desk is not iterated over")

    def __call__(self, command):
        return self.do(command)

    def claim_of(self, label):
        """The claim as a tuple, of what is kept now; None while its state is gone: UnknownLabel."""
        self._check_label(label)
        return claim_now(self._page.sheet, label)

    def do(self, command):
        """The answer to the command, a string: InvalidCommand; the errors of the command."""
        told = parts_of(command)
        if told is None:
            raise InvalidCommand(command)
        word, kinds, parts = told
        found = meanings(self._page.sheet, kinds, parts)
        if is_deed_word(word):
            return self._deed(command, sheet_behind(self._page.sheet, word, parts, found))
        if word == "undo":
            return self._undo()
        if word == "redo":
            return self._redo()
        return self._told(word, found)

    def do_all(self, *commands):
        """The list of the answers to the commands; if one fails, none has an effect: CommandFailed."""
        page = self._page
        answers = []
        for position, command in enumerate(commands):
            try:
                answers.append(self.do(command))
            except (RowError, MissingError, StateError, LimitError) as e:
                self._page = page
                raise CommandFailed(position) from e
        return answers

    def attempt(self, *commands):
        """The list of the answers to the commands, none of which has an effect: CommandFailed."""
        page = self._page
        answers = self.do_all(*commands)
        self._page = page
        return answers

    def attach(self, label, paper):
        """Keep a paper of the label's claim, or of its contrary, with the label: UnknownLabel; InvalidPaper."""
        claim = self.claim_of(label)
        if claim is None:
            raise InvalidPaper(paper)
        is_own = is_paper_of(claim, paper)
        if not is_own and not is_paper_of(contrary(claim), paper):
            raise InvalidPaper(paper)
        page = self._page
        papers = dict(page.papers)
        papers[label] = (copied_paper(paper), claim_words(page.sheet, label), is_own)
        self._page = Page(page.sheet, page.past, page.undone, papers)

    def fits(self, label):
        """Whether the label has a paper that is one as things are now, of what it was kept for: UnknownLabel."""
        claim = self.claim_of(label)
        page = self._page
        if claim is None or label not in page.papers:
            return False
        paper, words, is_own = page.papers[label]
        if words != claim_words(page.sheet, label):
            return False
        return is_paper_of(claim if is_own else contrary(claim), paper)

    def lines(self):
        """The list of the lines of the deeds that are not taken back."""
        return [line for line, _ in self._page.past]

    def copy(self):
        """A desk with the same things, labels, papers, deeds and what can be done again, that goes on by itself."""
        desk = Desk()
        desk._page = self._page
        return desk

    @classmethod
    def again(cls, lines):
        """A desk that has done these deeds: InvalidLines; CommandFailed."""
        check_lines(lines)
        desk = cls()
        desk.do_all(*lines)
        return desk

    def _check_label(self, label):
        """UnknownLabel unless a claim is noted under the label."""
        if not is_name(label) or label not in self._page.sheet.claims:
            raise UnknownLabel(label)

    def _deed(self, line, sheet):
        """The answer to the deed of the line, by which there is this sheet: TooMany."""
        page = self._page
        if len(page.past) == MOST_DEEDS:
            raise TooMany("deeds", MOST_DEEDS)
        self._page = Page(sheet, page.past + [(line, page.sheet)], [], page.papers)
        return changes(page.sheet, sheet)

    def _undo(self):
        """Take the last deed back and tell its line: NothingToUndo."""
        page = self._page
        if not page.past:
            raise NothingToUndo()
        line, sheet = page.past[-1]
        self._page = Page(sheet, page.past[:-1], page.undone + [(line, page.sheet)], page.papers)
        return line

    def _redo(self):
        """Do the last deed that was taken back again and tell its line: NothingToRedo."""
        page = self._page
        if not page.undone:
            raise NothingToRedo()
        line, sheet = page.undone[-1]
        self._page = Page(sheet, page.past + [(line, page.sheet)], page.undone[:-1], page.papers)
        return line

    def _told(self, word, found):
        """The answer to a command that changes nothing, of the parts with these meanings: its errors."""
        sheet = self._page.sheet
        if word == "state":
            return sheet.states[found[0]]
        if word == "states":
            return states_word(sheet.states)
        if word == "claimed":
            return claim_words(sheet, found[0])
        if word == "names":
            return " ".join(self.names) if self.names else "-"
        return answer_of(word, found)


class Trial:
    """A block in which a desk may be changed: behind it all of the desk is as it was ahead."""

    def __init__(self, desk):
        self._desk = desk
        self._kept = None

    def __enter__(self):
        self._kept = self._desk._page
        return self._desk

    def __exit__(self, kind, value, trace):
        desk = self._desk
        desk._page = self._kept


def tried(desk, action):
    """What the function returns for the desk within a trial."""
    with Trial(desk) as held:
        return action(held)


def check_lines(lines):
    """InvalidLines unless a list of deeds."""
    if not is_list(lines):
        raise InvalidLines(None)
    for position, line in enumerate(lines):
        if not is_deed(line):
            raise InvalidLines(position)


def copied_paper(value):
    """The paper, of new lists and tuples."""
    if isinstance(value, list):
        return [copied_paper(part) for part in value]
    if isinstance(value, tuple):
        return tuple([copied_paper(part) for part in value])
    return value
