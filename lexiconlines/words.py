"""Letters, words, colors and names."""

from lexiconlines.errors import InvalidWord

LETTERS = "abcd"
COLORS = "xyz"
_LOWERCASE = "abcdefghijklmnopqrstuvwxyz"
_LONGEST_WORD = 40
_LONGEST_NAME = 6


def is_word(value):
    """Whether any value is a string of 0 to 40 letters."""
    return is_letters(value) and len(value) <= _LONGEST_WORD


def is_letters(value):
    """Whether any value is a string of letters, however long."""
    return isinstance(value, str) and value.strip(LETTERS) == ""


def check_letters(value):
    """Raises InvalidWord for any value that is no string of letters."""
    if not is_letters(value):
        raise InvalidWord(value)


def is_color(value):
    """Whether any value is a color."""
    return isinstance(value, str) and len(value) == 1 and value in COLORS


def is_name(value):
    """Whether any value is a string of 1 to 6 lowercase letters."""
    return isinstance(value, str) and 1 <= len(value) <= _LONGEST_NAME and value.strip(_LOWERCASE) == ""


def in_short_order(words):
    """The list of the words in short order, without duplicates."""
    ascending = sorted(set(words))
    return sorted(ascending, key=len)
