"""A program's instructions as steps that can be done at once: every name in them is looked up beforehand."""

from scanlist.actions import action_of


class Step:
    def __init__(self, line, name, action, place, limit, target):
        self.line = line
        self.name = name
        self.action = action
        self.cells = place[0]
        self.index = place[1]
        self.limit = limit
        self.target = target


def steps_of(lines, cells):
    targets = targets_of(lines)
    end = len([line for line in lines if line.name is not None])
    steps = []
    for number, line in enumerate(lines, start=1):
        if line.name is not None:
            place = place_of(line, cells)
            target = target_of(line, targets, end)
            steps.append(Step(number, line.name, action_of(line), place, limit_of(line), target))
    return steps


# Which step a label stands before.
def targets_of(lines):
    targets = {}
    at = 0
    for line in lines:
        if line.label is not None:
            targets[line.label] = at
        if line.name is not None:
            at += 1
    return targets


# The operand's list and its index there; a number has a list of its own, so that it's found as all others are.
def place_of(line, cells):
    if len(line.operands) == 0 or line.operands[0][0] == "label":
        return (None, 0)
    kind = line.operands[0][0]
    value = line.operands[0][1]
    if kind == "number":
        return ([value], 0)
    return (cells[kind], value)


def limit_of(line):
    return line.operands[1][1] if len(line.operands) > 1 else 0


# RET and RETC have no label: they go behind the last step.
def target_of(line, targets, end):
    if len(line.operands) > 0 and line.operands[0][0] == "label":
        return targets[line.operands[0][1]]
    return end
