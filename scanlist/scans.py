"""A program's scans, one behind another."""

from scanlist.errors import Fault, ScanTooLong, Stopped
from scanlist.machine import Machine, begin_scan, output_of, words_of
from scanlist.steps import steps_of

STEP_LIMIT = 100000


# The outputs of the scans that were done, the words, and how it ended.
def do_scans(lines, inputs, times, words):
    machine = Machine(words)
    steps = steps_of(lines, machine.cells)
    outputs = []
    for bits, now in zip(inputs, times):
        words_before = words_of(machine)
        begin_scan(machine, bits, now)
        try:
            do_scan(machine, steps)
        except Stopped as stop:
            return (outputs, words_before, [stop.number, len(outputs), stop.line])
        outputs.append(output_of(machine))
    return (outputs, words_of(machine), [0, len(outputs), 0])


def do_scan(machine, steps):
    done = 0
    while machine.at < len(steps):
        step = steps[machine.at]
        # Ahead of the step, which may lead elsewhere.
        machine.at += 1
        done += 1
        try:
            do_step(machine, step, done)
        except Fault as fault:
            raise Stopped(fault.number, step.line) from None


def do_step(machine, step, done):
    if done > STEP_LIMIT:
        raise ScanTooLong()
    action = step.action
    action(machine, step)
