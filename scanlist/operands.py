"""What an instruction is done with: bits, words, numbers and labels, each as a pair of its kind and what it is."""

from scanlist.errors import Unreadable
from scanlist.signs import is_word

CONSTANTS = {"FALSE": 0, "TRUE": 1}

SIZES = {"I": 64, "Q": 64, "M": 256, "T": 32, "C": 32, "W": 256, "E": 32, "V": 32}

KINDS = {
    "any": ("I", "Q", "M", "T", "C", "constant", "W", "E", "V", "number"),
    "bit": ("I", "Q", "M", "T", "C", "constant"),
    "word": ("W", "E", "V", "number"),
    "stored": ("Q", "M", "W"),
    "stored bit": ("Q", "M"),
    "timer": ("T",),
    "counter": ("C",),
    "edge": ("M",),
    "number": ("number",),
    "duration": ("number",),
    "label": ("label",),
}


def read_operand(sign, form):
    # Any word can be read as a jump's label, so a bit's name must not be taken for the bit here.
    operand = label_of(sign) if form == "label" else value_of(sign)
    if operand[0] not in KINDS[form]:
        raise Unreadable()
    if form == "duration" and operand[1] < 0:
        raise Unreadable()
    return operand


def label_of(sign):
    if not is_word(sign):
        raise Unreadable()
    return ("label", sign)


def value_of(sign):
    if isinstance(sign, int):
        return ("number", sign)
    value = named_value(sign)
    if value is None:
        raise Unreadable()
    return value


# None for a word that names no value, and so may be a label.
def named_value(word):
    if word in CONSTANTS:
        return ("constant", CONSTANTS[word])
    kind = word[0]
    digits = word[1:]
    if kind not in SIZES or not is_plain_number(digits):
        return None
    number = int(digits)
    if number >= SIZES[kind]:
        return None
    return (kind, number)


def is_plain_number(digits):
    return digits == "0" or digits.isdigit() and digits[0] != "0"


# How many bits or words of a kind there are.
def size_of(kind):
    return SIZES[kind]
