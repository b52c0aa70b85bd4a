"""Reading formulas from their texts."""

from lexiconlines.errors import InvalidFormula
from lexiconlines.words import is_color

_FIRST_MARKS = {"t": "true", "f": "false"}
_CONNECTIVES = {"a": "and", "o": "or"}


class FormulaReader:
    """A text from which a formula is read, character by character."""

    def __init__(self, text):
        self._text = text
        self._at = 0

    def whole(self, room):
        """The formula that the whole text is; it nests at most so deep."""
        formula = self._formula(room)
        if self._at < len(self._text):
            raise InvalidFormula(self._at)
        return formula

    def _mark(self):
        """The next character, or the empty string behind the last one."""
        return self._text[self._at:self._at + 1]

    def _take(self, told):
        """Goes behind some characters, which must come next."""
        for mark in told:
            if self._mark() != mark:
                raise InvalidFormula(self._at)
            self._at += 1

    def _formula(self, room):
        mark = self._mark()
        if mark in _FIRST_MARKS:
            self._take(_FIRST_MARKS[mark])
            return (_FIRST_MARKS[mark],)
        if room > 0 and mark == "n":
            self._take("not ")
            return ("not", self._formula(room - 1))
        if room > 0 and mark == "s":
            return self._some(room)
        if room > 0 and mark == "(":
            return self._connected(room)
        raise InvalidFormula(self._at)

    def _some(self, room):
        self._take("some ")
        color = self._mark()
        if not is_color(color):
            raise InvalidFormula(self._at)
        self._take(color + " [")
        below = self._formula(room - 1)
        self._take(" | ")
        above = self._formula(room - 1)
        self._take("]")
        return ("some", color, below, above)

    def _connected(self, room):
        self._take("(")
        parts = [self._formula(room - 1)]
        self._take(" ")
        word = _CONNECTIVES.get(self._mark())
        if word is None:
            raise InvalidFormula(self._at)
        self._take(word + " ")
        parts.append(self._formula(room - 1))
        while self._mark() == " ":
            self._take(" " + word + " ")
            parts.append(self._formula(room - 1))
        self._take(")")
        return (word, *parts)
