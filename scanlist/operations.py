"""The operations of two bits or of two words."""

from scanlist.errors import DivisorZero
from scanlist.results import bit_of, in_range, word_of


def both(left, right):
    return left and right


def either(left, right):
    return left or right


def differing(left, right):
    return left != right


def left_alone(left, right):
    return left and not right


def left_or_other(left, right):
    return left or not right


def alike(left, right):
    return left == right


def sum_of(left, right):
    return in_range(left + right)


def difference(left, right):
    return in_range(left - right)


def product(left, right):
    return in_range(left * right)


# Python's own division goes down, this one goes toward 0.
def quotient(left, right):
    refuse_zero(right)
    size = abs(left) // abs(right)
    return in_range(size if (left < 0) == (right < 0) else -size)


def remainder(left, right):
    refuse_zero(right)
    size = abs(left) % abs(right)
    return -size if left < 0 else size


def refuse_zero(divisor):
    if divisor == 0:
        raise DivisorZero()


def greater(left, right):
    return left > right


def not_less(left, right):
    return left >= right


def not_greater(left, right):
    return left <= right


def less(left, right):
    return left < right


BIT_OPERATIONS = {
    "AND": both,
    "OR": either,
    "XOR": differing,
    "ANDN": left_alone,
    "ORN": left_or_other,
    "XORN": alike,
}

WORD_OPERATIONS = {
    "ADD": sum_of,
    "SUB": difference,
    "MUL": product,
    "DIV": quotient,
    "MOD": remainder,
    "GT": greater,
    "GE": not_less,
    "EQ": alike,
    "NE": differing,
    "LE": not_greater,
    "LT": less,
}


def work_out(name, left, right):
    if name in BIT_OPERATIONS:
        operation = BIT_OPERATIONS[name]
        return operation(bit_of(left), bit_of(right))
    operation = WORD_OPERATIONS[name]
    return operation(word_of(left), word_of(right))
