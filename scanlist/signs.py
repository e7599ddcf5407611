"""The bytes of a program as rows of text, and a row as its signs: words, numbers and marks."""

from scanlist.errors import Unreadable

LETTERS = "ABCDEFGHIJKLMNOPQRSTUVWXYZabcdefghijklmnopqrstuvwxyz_"
DIGITS = "0123456789"
MARKS = ":()"
BLANKS = " \t"
OTHERS = "-;\n"
# Stands for every byte that is in no sign: one character a byte, so a row's length stays what it is.
UNKNOWN = "?"

ROW_LIMIT = 255
WORD_LIMIT = 15
NUMBER_BOUND = 2147483648


def rows_of(codes):
    rows = text_of(codes).split("\n")
    # A line feed ends a row; the last one begins no further row.
    if rows[-1] == "":
        rows.pop()
    return rows


def text_of(codes):
    characters = {}
    for character in LETTERS + DIGITS + MARKS + BLANKS + OTHERS:
        characters[ord(character)] = character
    return "".join([characters.get(code, UNKNOWN) for code in codes])


# A word or a mark is given as a text, a number as a whole number.
def signs_of(row):
    # The limit is the whole row's, with its comment.
    if len(row) > ROW_LIMIT:
        raise Unreadable()
    shown = row.partition(";")[0]
    signs = []
    at = 0
    while at < len(shown):
        if shown[at] in BLANKS:
            at += 1
        else:
            end = end_of_sign(shown, at)
            signs.append(sign_of(shown[at:end]))
            at = end
    return signs


def end_of_sign(row, start):
    if row[start] in MARKS:
        return start + 1
    if row[start] in LETTERS:
        return end_of_run(row, start, LETTERS + DIGITS)
    return end_of_number(row, start)


def end_of_number(row, start):
    first_digit = start + 1 if row[start] == "-" else start
    end = end_of_run(row, first_digit, DIGITS)
    if end == first_digit:
        raise Unreadable()
    return end


def end_of_run(row, start, members):
    end = start
    while end < len(row) and row[end] in members:
        end += 1
    return end


def sign_of(text):
    if text[0] in MARKS:
        return text
    if text[0] in LETTERS:
        return word_of(text)
    return number_of(text)


def word_of(text):
    if len(text) > WORD_LIMIT:
        raise Unreadable()
    return text


def number_of(text):
    number = int(text)
    if number < -NUMBER_BOUND or number >= NUMBER_BOUND:
        raise Unreadable()
    return number


def is_word(sign):
    return isinstance(sign, str) and sign[0] in LETTERS
