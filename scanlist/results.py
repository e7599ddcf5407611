"""The result of a scan: None for nothing, True or False for a bit, a whole number for a word."""

from scanlist.errors import WordOutOfRange, WrongKind

WORD_BOUND = 2147483648


def bit_of(value):
    if not isinstance(value, bool):
        raise WrongKind()
    return value


def word_of(value):
    # A bit is a whole number to Python, too.
    if value is None or isinstance(value, bool):
        raise WrongKind()
    return value


def in_range(word):
    if word < -WORD_BOUND or word >= WORD_BOUND:
        raise WordOutOfRange()
    return word


def one_more(word):
    return min(word + 1, WORD_BOUND - 1)
