"""The desk: what is kept under names and labels, and all that is done to it, taken back and done again."""

from widefills.asked import answer_asked, stood_for
from widefills.basics import copied, is_listing
from widefills.claims import contrary, is_paper_of
from widefills.commands import command_told, is_deed, is_deed_word
from widefills.deeds import kept_behind
from widefills.errors import (CommandFailed, FillError, InvalidCommand, InvalidDeeds, InvalidPaper, LimitError,
                              MissingError, NothingToRedo, NothingToUndo, StateError, TooMany, UnknownLabel,
                              UnknownName)
from widefills.keeping import Keeping, changes, claim_told

MOST_DEEDS = 300


class Held:
    """All of a desk at one time. It never changes: what is done puts another one in its place.

    done are tuples of the line of a deed and what was kept ahead of it, undone of a line and what was kept behind it;
    papers, by labels, are tuples of the paper, the words of the claim, and the word of what it shows.
    """

    def __init__(self, keeping, papers, done, undone):
        self.keeping = keeping
        self.papers = papers
        self.done = done
        self.undone = undone


class Desk:
    """A desk that keeps machines, patterns, fillings, guessers and views, and notes claims about them."""

    def __init__(self):
        self._held = Held(Keeping({}, {}, {}), {}, [], [])

    @property
    def names(self):
        """The sorted list of the names under which something is kept."""
        return sorted(list(self._held.keeping.things))

    @property
    def labels(self):
        """The sorted list of the labels under which claims are noted."""
        return sorted(list(self._held.keeping.claims))

    def __len__(self):
        return len(self._held.done)

    def __contains__(self, name):
        return isinstance(name, str) and name in self._held.keeping.things

    def __getitem__(self, name):
        if name not in self:
            raise UnknownName(name)
        return copied(self._held.keeping.things[name][1])

    def __iter__(self):
        raise TypeError("a desk is not gone over")

    def __call__(self, command):
        return self.do(command)

    def do(self, command):
        """Do what the command tells; its answer."""
        parsed = command_told(command)
        if parsed is None:
            raise InvalidCommand(command)
        word, parts = parsed
        held, words = self._held, command.split(" ")
        told = stood_for(held.keeping, parts)
        if word == "undo":
            return self._taken_back(held)
        if word == "redo":
            return self._done_again(held)
        if not is_deed_word(word):
            return answer_asked(held.keeping, words, told)
        after = kept_behind(held.keeping, words, told)
        if len(held.done) >= MOST_DEEDS:
            raise TooMany("deeds", MOST_DEEDS)
        self._held = Held(after, held.papers, held.done + [(command, held.keeping)], [])
        return changes(held.keeping, after)

    def _taken_back(self, held):
        """Take the last deed back; its line."""
        if not held.done:
            raise NothingToUndo()
        line, ahead = held.done[-1]
        self._held = Held(ahead, held.papers, held.done[:-1], held.undone + [(line, held.keeping)])
        return line

    def _done_again(self, held):
        """Do the last deed that was taken back again; its line."""
        if not held.undone:
            raise NothingToRedo()
        line, behind = held.undone[-1]
        self._held = Held(behind, held.papers, held.done + [(line, held.keeping)], held.undone[:-1])
        return line

    def do_all(self, *commands):
        """Do all of the commands, or none if one fails; the list of their answers."""
        held, answers = self._held, []
        for position, command in enumerate(commands):
            try:
                answers.append(self.do(command))
            except (FillError, MissingError, StateError, LimitError) as e:
                self._held = held
                raise CommandFailed(position) from e
        return answers

    def attempt(self, *commands):
        """The answers of all of the commands; all is as before."""
        with Trial(self) as held:
            return held.do_all(*commands)

    def claim_of(self, label):
        """The claim as a tuple, with what is kept now; None while its state is gone."""
        self._check_label(label)
        keeping = self._held.keeping
        if keeping.truths[label] == "gone":
            return None
        return claim_told(keeping.things, keeping.claims[label])

    def _check_label(self, label):
        """Raise unless a claim is noted under this label."""
        if not isinstance(label, str) or label not in self._held.keeping.claims:
            raise UnknownLabel(label)

    def _true_one(self, label):
        """Of the label's claim and its contrary the one that is true now; None while its state is gone."""
        claim = self.claim_of(label)
        if claim is None or self._held.keeping.truths[label] == "true":
            return claim
        return contrary(claim)

    def attach(self, label, paper):
        """Keep a paper of the label's claim or of its contrary, whichever is true, with the label."""
        claim = self._true_one(label)
        if claim is None or not is_paper_of(claim, paper):
            raise InvalidPaper(paper)
        held = self._held
        kept = (copied(paper), held.keeping.claims[label], claim[0])
        self._held = Held(held.keeping, {**held.papers, label: kept}, held.done, held.undone)

    def fits(self, label):
        """Whether the paper kept with the label still shows what it was kept for."""
        claim = self._true_one(label)
        if claim is None or label not in self._held.papers:
            return False
        paper, words, word = self._held.papers[label]
        return words == self._held.keeping.claims[label] and word == claim[0] and is_paper_of(claim, paper)

    def lines(self):
        """The list of the lines of the deeds that are not taken back."""
        return [line for line, _ in self._held.done]

    def copy(self):
        """A desk that goes on by itself, with all that this one has now."""
        desk = Desk()
        desk._held = self._held
        return desk

    @classmethod
    def again(cls, lines):
        """A desk that has done these deeds."""
        if not is_listing(lines):
            raise InvalidDeeds(None)
        for position, line in enumerate(lines):
            if not is_deed(line):
                raise InvalidDeeds(position)
        desk = cls()
        desk.do_all(*lines)
        return desk


class Trial:
    """A block behind which all of the desk is as it was ahead."""

    def __init__(self, desk):
        self._desk = desk
        self._held = None

    def __enter__(self):
        self._held = self._desk._held
        return self._desk

    def __exit__(self, kind, value, trace):
        desk = self._desk
        desk._held = self._held


def tried(desk, action):
    """What the function returns for the desk; all of the desk is as before."""
    with Trial(desk) as held:
        return action(held)
