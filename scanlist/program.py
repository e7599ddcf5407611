"""A whole program, read line by line, or the line at which it is none."""

from scanlist.errors import NotAProgram, Unreadable
from scanlist.lines import read_line
from scanlist.signs import rows_of

TEXT_LIMIT = 65536
DEPTH_LIMIT = 8
INSTRUCTION_LIMIT = 4096

JUMPS = ("JMP", "JMPC", "JMPCN")
NOT_IN_PARENTHESES = ("JMP", "JMPC", "JMPCN", "RET", "RETC", "ST", "STN", "S", "R")


def read_program(codes):
    if len(codes) > TEXT_LIMIT:
        raise NotAProgram(0)
    lines = read_lines(rows_of(codes))
    # Only now: a label's fault counts where every line can be read.
    refuse_wrong_labels(lines)
    return lines


def read_lines(rows):
    lines = []
    depth = 0
    instructions = 0
    for row in rows:
        try:
            line = read_line(row)
            depth = depth_behind(line, depth)
            instructions = instructions_with(line, instructions)
        except Unreadable:
            raise NotAProgram(len(lines) + 1) from None
        lines.append(line)
    if depth > 0:
        raise NotAProgram(len(lines) + 1)
    return lines


def depth_behind(line, depth):
    if depth > 0 and (line.label is not None or line.name in NOT_IN_PARENTHESES):
        raise Unreadable()
    if line.opens:
        depth += 1
    elif line.name == ")":
        depth -= 1
    if depth < 0 or depth > DEPTH_LIMIT:
        raise Unreadable()
    return depth


def instructions_with(line, instructions):
    if line.name is not None:
        instructions += 1
    if instructions > INSTRUCTION_LIMIT:
        raise Unreadable()
    return instructions


def refuse_wrong_labels(lines):
    labels = labels_of(lines)
    before = {}
    for number, line in enumerate(lines, start=1):
        if line.label in before:
            raise NotAProgram(number)
        if line.label is not None:
            before[line.label] = True
        if line.name in JUMPS and line.operands[0][1] not in labels:
            raise NotAProgram(number)


def labels_of(lines):
    labels = {}
    for line in lines:
        if line.label is not None:
            labels[line.label] = True
    return labels
