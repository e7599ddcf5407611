"""A line of a program: a label or none, then an instruction or none."""

from scanlist.errors import Unreadable
from scanlist.operands import named_value, read_operand
from scanlist.signs import is_word, signs_of

FORMS = {
    "LD": ("any",),
    "LDN": ("bit",),
    "ST": ("stored",),
    "STN": ("stored bit",),
    "S": ("stored bit",),
    "R": ("stored bit",),
    "NOT": (),
    "AND": ("bit",),
    "OR": ("bit",),
    "XOR": ("bit",),
    "ANDN": ("bit",),
    "ORN": ("bit",),
    "XORN": ("bit",),
    "ADD": ("word",),
    "SUB": ("word",),
    "MUL": ("word",),
    "DIV": ("word",),
    "MOD": ("word",),
    "GT": ("word",),
    "GE": ("word",),
    "EQ": ("word",),
    "NE": ("word",),
    "LE": ("word",),
    "LT": ("word",),
    ")": (),
    "JMP": ("label",),
    "JMPC": ("label",),
    "JMPCN": ("label",),
    "RET": (),
    "RETC": (),
    "TON": ("timer", "duration"),
    "TOF": ("timer", "duration"),
    "TP": ("timer", "duration"),
    "CTU": ("counter", "number"),
    "RC": ("counter",),
    "UP": ("edge",),
    "DOWN": ("edge",),
}

MAY_BE_PUT_OFF = (
    "AND", "OR", "XOR", "ANDN", "ORN", "XORN",
    "ADD", "SUB", "MUL", "DIV", "MOD",
    "GT", "GE", "EQ", "NE", "LE", "LT",
)


# The label and the instruction's name are None where there is none.
class Line:
    def __init__(self, label, name, opens, operands):
        self.label = label
        self.name = name
        self.opens = opens
        self.operands = operands


def read_line(row):
    signs = signs_of(row)
    if len(signs) < 2 or signs[1] != ":":
        return read_instruction(None, signs)
    return read_instruction(read_label(signs[0]), signs[2:])


def read_label(sign):
    if not is_word(sign) or named_value(sign) is not None:
        raise Unreadable()
    return sign


def read_instruction(label, signs):
    if len(signs) == 0:
        return Line(label, None, False, [])
    name = signs[0]
    if name not in FORMS:
        raise Unreadable()
    if len(signs) > 1 and signs[1] == "(":
        return Line(label, name, True, read_put_off(name, signs[2:]))
    return Line(label, name, False, read_operands(signs[1:], FORMS[name]))


def read_put_off(name, signs):
    if name not in MAY_BE_PUT_OFF:
        raise Unreadable()
    return read_operands(signs, ("any",))


def read_operands(signs, forms):
    if len(signs) != len(forms):
        raise Unreadable()
    return [read_operand(sign, form) for sign, form in zip(signs, forms)]
