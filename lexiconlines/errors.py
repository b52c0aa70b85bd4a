"""All errors of the package, under two upper classes."""


class LexiconError(ValueError):
    """A value that is passed cannot be taken, or a result cannot be made."""

    def __init__(self):
        super().__init__()


class InvalidText(LexiconError):
    def __init__(self, line, why):
        self.line = line
        self.why = why


class InvalidNode(LexiconError):
    def __init__(self, at):
        self.at = at


class InvalidWord(LexiconError):
    def __init__(self, word):
        self.word = word


class InvalidColor(LexiconError):
    def __init__(self, color):
        self.color = color


class InvalidNumber(LexiconError):
    def __init__(self, number):
        self.number = number


class InvalidFar(LexiconError):
    """The value is no far word."""


class InvalidTerm(LexiconError):
    def __init__(self, place):
        self.place = place


class InvalidRow(LexiconError):
    """The value is no row."""


class InvalidSign(LexiconError):
    """The value is no sign text, or no list of such."""


class InvalidCode(LexiconError):
    def __init__(self, at):
        self.at = at


class InvalidFormula(LexiconError):
    def __init__(self, place):
        self.place = place


class InvalidDeed(LexiconError):
    def __init__(self, at):
        self.at = at


class TooMany(LexiconError):
    def __init__(self, count):
        self.count = count


class TooDeep(LexiconError):
    def __init__(self, depth):
        self.depth = depth


class Unlike(LexiconError):
    def __init__(self, level, sign):
        self.level = level
        self.sign = sign


class Alike(LexiconError):
    def __init__(self, depth):
        self.depth = depth


class NotWell(LexiconError):
    def __init__(self, paper):
        self.paper = paper


class HasDense(LexiconError):
    def __init__(self, paper):
        self.paper = paper


class NotJoined(LexiconError):
    """The first row has no last spot, or the second one no first spot."""


class WrongColor(LexiconError):
    def __init__(self, color):
        self.color = color


class Closed(LexiconError):
    """The draft is closed."""


class Full(LexiconError):
    def __init__(self, most):
        self.most = most


class LookupFailed(LookupError):
    """What is asked for is not there."""

    def __init__(self):
        super().__init__()


class NoWord(LookupFailed):
    def __init__(self, word, place):
        self.word = word
        self.place = place


class NoStep(LookupFailed):
    def __init__(self, word, direction, paper):
        self.word = word
        self.direction = direction
        self.paper = paper


class BlockEnds(LookupFailed):
    def __init__(self, gone):
        self.gone = gone


class UnknownNode(LookupFailed):
    def __init__(self, node):
        self.node = node


class NoGap(LookupFailed):
    def __init__(self, gap):
        self.gap = gap


class NoTriple(LookupFailed):
    def __init__(self, triple):
        self.triple = triple


class UnknownName(LookupFailed):
    def __init__(self, name):
        self.name = name


class UnknownSession(LookupFailed):
    def __init__(self, number):
        self.number = number


class NothingLeft(LookupFailed):
    """There is nothing to be undone, or to be done again."""
