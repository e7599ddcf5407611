"""The program's calls: whole numbers and lists in, a list of whole numbers out."""

from scanlist.errors import NotAProgram
from scanlist.program import read_program


def check(text):
    try:
        read_program(text)
    except NotAProgram as refusal:
        return [-1, refusal.line]
    return [0]
