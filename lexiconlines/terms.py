"""Terms: how lines are made of signs by sums, up, down and shuffles."""

from lexiconlines.errors import InvalidColor, InvalidNumber, InvalidSign, InvalidTerm
from lexiconlines.signforms import mirrored_text, sign_shapes
from lexiconlines.termtexts import wrong_place
from lexiconlines.values import is_number_in
from lexiconlines.words import is_color

_MOST_COPIES = 40
_OPPOSITE = {"up": "down", "down": "up"}


class Term:
    """A term; it never changes. Only the functions of this file make it, so that it has its form."""

    def __init__(self, kind, sign, parts):
        self.kind = kind
        self.sign = sign
        self.parts = parts
        wraps = kind in ("up", "down", "shuffle")
        self._text = _written(kind, sign, [part.text() for part in parts])
        self._many = sum([len(part) for part in parts]) + (1 if wraps or kind == "sign" else 0)
        self._height = max([part.height for part in parts], default=0) + (1 if wraps else 0)

    @staticmethod
    def empty():
        """The empty term."""
        return Term("empty", "", ())

    @staticmethod
    def spot(color):
        """The term of a single spot with a color."""
        if not is_color(color):
            raise InvalidColor(color)
        return single(color)

    @staticmethod
    def shuffle(first=None, *others):
        """The shuffle of any number of terms."""
        # Methods of the subset have a plain first parameter, so the first piece has a name of its own.
        return shuffle_of([] if first is None else [first, *others])

    @staticmethod
    def read(text):
        """The term that is read from a text."""
        place = wrong_place(text)
        if place is not None:
            raise InvalidTerm(place)
        return _built(text)

    @property
    def height(self):
        """How deep up, down and shuffles stand in one another."""
        return self._height

    @property
    def is_empty(self):
        """Whether it is the empty term."""
        return self.kind == "empty"

    def up(self):
        """The line repeated without end, with a first copy."""
        return self if self.is_empty else Term("up", "", (self,))

    def down(self):
        """The line repeated without end, with a last copy."""
        return self if self.is_empty else Term("down", "", (self,))

    def mirror(self):
        """The term of the opposite order."""
        made = {}
        for one in parts_first(self, {}):
            parts = [made[part.text()] for part in one.parts]
            if one.kind == "sign":
                made[one.text()] = single(mirrored_text(one.sign))
            else:
                made[one.text()] = _of_kind(_OPPOSITE.get(one.kind, one.kind), parts[::-1])
        return made[self._text]

    def filled(self, **terms):
        """The term in which each sign that is a keyword is replaced by its value."""
        for color in terms:
            if not is_color(color):
                raise InvalidColor(color)
        made = {}
        for one in parts_first(self, {}):
            parts = [made[part.text()] for part in one.parts]
            made[one.text()] = terms.get(one.sign, one) if one.kind == "sign" else _of_kind(one.kind, parts)
        return made[self._text]

    def signs(self):
        """The ascending list of the signs."""
        return sorted([one.sign for one in parts_first(self, {}) if one.kind == "sign"])

    def text(self):
        """The text of the term."""
        return self._text

    def __add__(self, other):
        return sum_of([self, other])

    def __mul__(self, number):
        if not is_number_in(number, 0, _MOST_COPIES):
            raise InvalidNumber(number)
        return sum_of([self] * number)

    def __neg__(self):
        return self.mirror()

    def __eq__(self, other):
        return isinstance(other, Term) and self._text == other._text

    def __bool__(self):
        return True

    def __len__(self):
        return len(range(self._many))

    def __str__(self):
        return f"{self._text}"

    def __repr__(self):
        return f"Term({self._text})"


def sign_term(sign):
    """The term of a single spot with a sign."""
    if sign_shapes(sign) is None:
        raise InvalidSign()
    return single(sign)


def mirrored_sign(sign):
    """The sign of the mirrored line of a sign."""
    if sign_shapes(sign) is None:
        raise InvalidSign()
    return mirrored_text(sign)


def single(sign):
    """The term of a single spot with what is known to be a sign."""
    return Term("sign", sign, ())


def sum_of(terms):
    """The sum of a list of terms."""
    parts = []
    for term in terms:
        if term.kind == "sum":
            parts.extend(term.parts)
        elif not term.is_empty:
            parts.append(term)
    if len(parts) >= 2:
        return Term("sum", "", tuple(parts))
    return parts[0] if parts else Term("empty", "", ())


def shuffle_of(pieces):
    """The shuffle of a list of terms."""
    named = {piece.text(): piece for piece in pieces if not piece.is_empty}
    if not named:
        return Term("empty", "", ())
    return Term("shuffle", "", tuple([named[text] for text in sorted(named)]))


def parts_first(term, known):
    """The list of the different terms in a term, itself included, each behind its parts.

    Terms with texts in the dict known are left out, and so is what occurs in them alone.
    """
    found = []
    met = {}
    waiting = [(term, False)]
    while waiting:
        one, entered = waiting.pop()
        if entered:
            found.append(one)
        elif one.text() not in met and one.text() not in known:
            met[one.text()] = True
            waiting.append((one, True))
            waiting.extend([(part, False) for part in one.parts])
    return found


def _written(kind, sign, texts):
    """The text of a term from the texts of its parts."""
    if kind == "sum":
        return "".join(texts)
    if kind == "up":
        return "(" + texts[0] + ")>"
    if kind == "down":
        return "<(" + texts[0] + ")"
    if kind == "shuffle":
        return "{" + ",".join(texts) + "}"
    return "0" if kind == "empty" else sign


def _of_kind(kind, parts):
    """The term of a kind other than a sign with some parts."""
    if kind == "up":
        return parts[0].up()
    if kind == "down":
        return parts[0].down()
    return shuffle_of(parts) if kind == "shuffle" else sum_of(parts)


def _built(text):
    """The term with a text whose form is right."""
    sums = [[]]
    shuffles = []
    kinds = []
    for at, mark in enumerate(text):
        if is_color(mark):
            sums[-1].append(single(mark))
        elif mark == "(":
            kinds.append("down" if text[at - 1:at] == "<" else "up")
            sums.append([])
        elif mark == ")":
            inner = sum_of(sums.pop())
            sums[-1].append(_of_kind(kinds.pop(), [inner]))
        elif mark == "{":
            shuffles.append([])
            sums.append([])
        elif mark in ",}":
            shuffles[-1].append(sum_of(sums.pop()))
            if mark == ",":
                sums.append([])
            else:
                sums[-1].append(shuffle_of(shuffles.pop()))
    return sum_of(sums[0])
