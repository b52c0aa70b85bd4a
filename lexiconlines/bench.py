"""Benches: books by names, with history, sessions, drafts, and answers to lines."""

from lexiconlines.answers import answered
from lexiconlines.benchstates import FIRST_LIMIT, after_deeds, kept_book, kept_names, state_text
from lexiconlines.deeds import MOST_BOOKS
from lexiconlines.errors import Closed, InvalidNumber, NothingLeft, UnknownSession
from lexiconlines.keys import key_of
from lexiconlines.matching import Matching
from lexiconlines.values import is_number_in
from lexiconlines.words import is_name


class Bench:
    """A bench of books; each step that is done can be taken back."""

    def __init__(self):
        self._state = ({}, FIRST_LIMIT)
        # Pairs of the deeds of a step and the state ahead of it, or behind it if it was taken back.
        self._done = []
        self._undone = []
        # Triples of two names and the matching of the books that they had.
        self._sessions = []
        self._log = []
        self._busy = False

    def do(self, *deeds):
        """Does some deeds, in order, as one step."""
        self._busy = True
        try:
            state = after_deeds(self._state, deeds)
            if deeds:
                self._done.append((deeds, self._state))
                self._undone = []
                self._state = state
        finally:
            self._busy = False

    def keep(self, **books):
        """Keeps books under the keywords as their names, as one step."""
        deeds = [("put", name, books[name]) for name in sorted(books)]
        self.do(*deeds)

    def undo(self):
        """Takes back the last step."""
        if not self._done:
            raise NothingLeft()
        deeds, ahead = self._done.pop()
        self._undone.append((deeds, self._state))
        self._state = ahead

    def redo(self):
        """Does the step again that was taken back last."""
        if not self._undone:
            raise NothingLeft()
        deeds, behind = self._undone.pop()
        self._done.append((deeds, self._state))
        self._state = behind

    def steps(self):
        """The pair of the numbers of steps that can be undone and redone."""
        return (len(self._done), len(self._undone))

    def journal(self):
        """The list of the steps that are done and not taken back, each as a tuple of its deeds."""
        return [deeds for deeds, _ in self._done]

    def names(self):
        """The ascending list of the names of the books."""
        return kept_names(self._state)

    def book(self, name):
        """The book with a name."""
        return kept_book(self._state, name)

    def shelf(self):
        """A dict from the keys of the books to the lists of their names."""
        found = {}
        for name in self.names():
            found.setdefault(key_of(self.book(name)), []).append(name)
        return {key: found[key] for key in sorted(found)}

    @property
    def limit(self):
        """How many books the bench keeps at most."""
        return self._state[1]

    @limit.setter
    def limit(self, value):
        self.change_limit(value)

    def change_limit(self, number):
        """Sets the limit, as one step."""
        if not is_number_in(number, 1, MOST_BOOKS):
            raise InvalidNumber(number)
        self.do(("limit", number))

    @property
    def busy(self):
        """Whether deeds are being done."""
        return self._busy

    def match(self, one, other):
        """Begins a session on the books with two names; returns its number."""
        matching = Matching(self.book(one), self.book(other))
        self._sessions.append((one, other, matching))
        return len(self._sessions) - 1

    def mate(self, number, side, word):
        """The mate of a word in an open session."""
        return self._matching(number).mate(side, word)

    def pairs(self, number):
        """The list of the pairs of an open session."""
        return self._matching(number).pairs()

    def sessions(self):
        """The ascending list of the numbers of the open sessions."""
        return [number for number in range(len(self._sessions)) if self._is_open(number)]

    def draft(self):
        """A draft of the bench, to be opened by a with-block."""
        return Draft(self)

    def tried(self, *deeds):
        """The text that the bench would have behind some deeds."""
        return state_text(after_deeds(self._state, deeds))

    def say(self, line):
        """The answer to a string."""
        answer = answered(self, line)
        self._log.append((line, answer))
        return answer

    def log(self):
        """The list of the pairs of a line and its answer."""
        return list(self._log)

    def text(self):
        """The text of the bench."""
        return state_text(self._state)

    def twin(self):
        """An independent bench in the same state."""
        other = bench_in(self._state)
        other._done = list(self._done)
        other._undone = list(self._undone)
        other._sessions = [(one, two, matching.twin()) for one, two, matching in self._sessions]
        other._log = list(self._log)
        return other

    def __call__(self, line):
        return self.say(line)

    def __contains__(self, name):
        return is_name(name) and name in self._state[0]

    def __eq__(self, other):
        return isinstance(other, Bench) and self._state == other._state

    def __bool__(self):
        return True

    def __len__(self):
        return len(self._state[0])

    def __repr__(self):
        return f"Bench({len(self._state[0])} books)"

    def _is_open(self, number):
        """Whether the books with which a session was begun still have its names."""
        one, other, matching = self._sessions[number]
        books = self._state[0]
        return books.get(one) == matching.one and books.get(other) == matching.other

    def _matching(self, number):
        if not is_number_in(number, 0, len(self._sessions) - 1) or not self._is_open(number):
            raise UnknownSession(number)
        return self._sessions[number][2]


class Draft:
    """Deeds on copies of the books of a bench, which can be done on the bench together."""

    def __init__(self, bench):
        self._bench = bench
        self._state = bench._state
        # What was done since the draft was begun, or last kept.
        self._deeds = []
        self._is_within = False

    @property
    def is_open(self):
        """Whether the draft is within its with-block."""
        return self._is_within

    def do(self, *deeds):
        """Does some deeds, in order, on the books of the draft."""
        self._check_open()
        self._state = after_deeds(self._state, deeds)
        self._deeds.extend(deeds)

    def book(self, name):
        """The book of the draft with a name."""
        return kept_book(self._state, name)

    def names(self):
        """The ascending list of the names of the books of the draft."""
        return kept_names(self._state)

    def keep(self):
        """Does the deeds of the draft on the bench, as one step."""
        self._check_open()
        self._bench.do(*self._deeds)
        self._deeds = []

    def __enter__(self):
        self._is_within = True
        return self

    def __exit__(self, kind, value, trace):
        self._is_within = False

    def _check_open(self):
        if not self._is_within:
            raise Closed()


def drafted(bench, work):
    """What a function of one argument returns for a draft of a bench that is open while the function runs."""
    with bench.draft() as draft:
        return work(draft)


def bench_in(state):
    """A bench in a state, without history, sessions and log."""
    bench = Bench()
    bench._state = state
    return bench
