"""A desk that keeps things under names and notes claims of them under labels."""

from producttables.answers import answer_of, shown, sized
from producttables.basics import is_list
from producttables.claims import contrary, is_paper_of
from producttables.claimwork import copied
from producttables.commands import DEEDS, command_told, is_deed
from producttables.deskwork import (
    Moment, Shelf, asked, changes_told, claim_noted, is_one_of, need_room_on, shelf_behind, states_told,
)
from producttables.errors import (
    CommandFailed, InvalidCommand, InvalidLines, InvalidPaper, LimitError, MissingError, MixError, NothingToRedo,
    NothingToUndo, StateError, TooMany, UnknownLabel, UnknownName,
)

MOST_DEEDS = 300


class Desk:
    """Things under names, claims under labels, and the deeds that made them what they are."""

    def __init__(self):
        # a moment never changes: so to keep it is enough for all to be as it was
        self._now = Moment(Shelf({}, {}, {}), {}, [], [])

    @property
    def names(self):
        """The names under which something is kept, sorted."""
        return sorted(self._now.shelf.things)

    @property
    def labels(self):
        """The labels under which claims are noted, sorted."""
        return sorted(self._now.shelf.claims)

    def __len__(self):
        return len(self._now.done)

    def __getitem__(self, name):
        if not is_one_of(name, self._now.shelf.things):
            raise UnknownName(name)
        return copied(self._now.shelf.things[name][1])

    def __contains__(self, name):
        return is_one_of(name, self._now.shelf.things)

    def __iter__(self):
        raise TypeError("a desk is not iterated over")

    def __call__(self, command):
        return self.do(command)

    def claim_of(self, label):
        """The claim under the label with what is kept now; None while its state is gone."""
        shelf = self._now.shelf
        if not is_one_of(label, shelf.claims):
            raise UnknownLabel(label)
        word, name = shelf.claims[label]
        return claim_noted(shelf, word, name)

    def do(self, command):
        """Does what the command tells; the answer."""
        told = command_told(command)
        if told is None:
            raise InvalidCommand(command)
        word, behind = told
        if word in DEEDS:
            return self._done(command, shelf_behind(self._now.shelf, word, behind))
        if word == "undo":
            return self._undone()
        if word == "redo":
            return self._redone()
        return answered(self._now.shelf, word, behind)

    def _done(self, line, shelf):
        """Keeps the shelf behind a deed; which states it changed."""
        now = self._now
        need_room_on(shelf)
        if len(now.done) == MOST_DEEDS:
            raise TooMany("deeds", MOST_DEEDS)
        self._now = Moment(shelf, now.papers, now.done + [(line, now.shelf)], [])
        return changes_told(now.shelf, shelf)

    def _undone(self):
        """Takes the last deed back; its line."""
        now = self._now
        if not now.done:
            raise NothingToUndo()
        line, shelf = now.done[-1]
        self._now = Moment(shelf, now.papers, now.done[:-1], now.taken + [(line, now.shelf)])
        return line

    def _redone(self):
        """Does the last deed that was taken back again; its line."""
        now = self._now
        if not now.taken:
            raise NothingToRedo()
        line, shelf = now.taken[-1]
        self._now = Moment(shelf, now.papers, now.done + [(line, now.shelf)], now.taken[:-1])
        return line

    def do_all(self, *commands):
        """Does all commands, or none of them; the list of the answers."""
        before, answers = self._now, []
        for position, command in enumerate(commands):
            try:
                answers.append(self.do(command))
            except (MixError, MissingError, StateError, LimitError) as e:
                self._now = before
                raise CommandFailed(position) from e
        return answers

    def attempt(self, *commands):
        """The answers that all commands would give; all is as before."""
        before = self._now
        answers = self.do_all(*commands)
        self._now = before
        return answers

    def attach(self, label, paper):
        """Keeps a paper of the claim under the label, or of its contrary, with the label."""
        now, claim = self._now, self.claim_of(label)
        if claim is None:
            raise InvalidPaper(paper)
        other = contrary(claim)
        if is_paper_of(claim, paper):
            word = claim[0]
        elif is_paper_of(other, paper):
            word = other[0]
        else:
            raise InvalidPaper(paper)
        papers = dict(now.papers)
        papers[label] = now.shelf.claims[label], word, copied(paper)
        self._now = Moment(now.shelf, papers, now.done, now.taken)

    def fits(self, label):
        """Whether a paper kept with the label for its words still is one of what it was kept for."""
        claim = self.claim_of(label)
        if claim is None or label not in self._now.papers:
            return False
        noted, word, paper = self._now.papers[label]
        if noted != self._now.shelf.claims[label]:
            return False
        return is_paper_of((word, claim[1]), paper)

    def lines(self):
        """The lines of the deeds that are not taken back."""
        return [line for line, _ in self._now.done]

    def copy(self):
        """A desk that goes on by itself with all that this one has."""
        made = Desk()
        made._now = self._now
        return made

    @classmethod
    def again(cls, lines):
        """A desk that has done these deeds."""
        if not is_list(lines):
            raise InvalidLines(None)
        for position, line in enumerate(lines):
            if not is_deed(line):
                raise InvalidLines(position)
        made = cls()
        made.do_all(*lines)
        return made


class Trial:
    """A block behind which all of a desk is as it was ahead of it."""

    def __init__(self, desk):
        self._desk = desk
        self._before = None

    def __enter__(self):
        self._before = self._desk._now
        return self._desk

    def __exit__(self, kind, value, trace):
        desk = self._desk
        desk._now = self._before


def tried(desk, action):
    """What the action returns for the desk; all of the desk is as before."""
    with Trial(desk) as held:
        return action(held)


def answered(shelf, word, told):
    """The answer to a command that changes nothing."""
    given = asked(shelf, word, told)
    if word == "state":
        return shelf.states[told[0]]
    if word == "states":
        return states_told(shelf.states)
    if word == "claimed":
        return " ".join(shelf.claims[told[0]])
    if word == "names":
        return " ".join(sorted(shelf.things)) if shelf.things else "-"
    if word == "show":
        return shown(shelf.things[told[0]][0], given[0])
    if word == "size":
        return sized(shelf.things[told[0]][0], given[0])
    if word == "same":
        # parts are kept told: those that make the same mixtures are equal
        return "yes" if given[0] == given[1] else "no"
    return answer_of(word, given[0])
